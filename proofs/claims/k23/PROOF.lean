import PyProof.Rows.All
import Wide.All
import OpenK.AllK
import Wide.FinOn
import HandS.ForMost
import HandS.IsInst
import HandS.StrMore
import HandS.WideBits
import KE.KxText
import HandS.Strs
import HandS.SetFor
import HandS.SetTxt0
import HandS.More
import HandS.Walk
import HandS.Zip
import HandS.TupAny
import KE.KDictList
import PyProof.StrBlock2
import PyProof.ListStr
import HandS.Style
import HandS.Sort
import KE.LtSeq
import HandS.TupSets
import KE.SortData
import KE.KDictPairs
import KE.KDictCopyH
import KE.KDictSum
import HandS.Conv
import KE.SortLaws
import HandS.ExcInit
import HandS.SetBool
import HandS.Deep
import KE.GoesEnum
import HandS.OwnEq
import HandS.TryOnly
import PySem.Challenge.RW_lookdepths_k23_whole_ways_to_leaves
section
set_option Elab.async false
set_option linter.all false
set_option maxRecDepth 100000
set_option maxHeartbeats 4000000
namespace My
open PySem PySem.Spec PyProof.Rows L2 TL
/-! ### variables and literals as texts -/
def dash : Str := "-"
def abc : List Nat := (Str.cps "abcdefghijklmnopqrstuvwxyz").toList
/-- one to eight letters -/
def lowZ (z : Str) : Bool := decide (1 ≤ z.length) && decide (z.length ≤ 8) && z.cps.toList.all fun c => decide (c ∈ abc)
def bareS (z : Str) : Str := Txt.removeprefix z dash
def negS (z : Str) : Bool := Txt.startswith z dash
def oppS (z : Str) : Str := if negS z = true then bareS z else dash ++ z
def litS (z : Str) : Bool := lowZ (bareS z)
def varV : V → Bool
  | .str z => lowZ z
  | _ => false
def litV : V → Bool
  | .str z => litS z
  | _ => false
theorem bare_of_pos {z : Str} (h : ¬ negS z = true) : bareS z = z := by
  unfold bareS
  rw [StrLaws.removeprefix_eq]
  exact if_neg h
theorem bare_le (z : Str) (h : z.length ≤ sizeLine) : (bareS z).length ≤ sizeLine := by
  unfold bareS
  rw [StrLaws.removeprefix_eq]
  split
  · show ((z.cps.toList.drop dash.length).take (z.length - dash.length)).toArray.size ≤ sizeLine
    rw [List.size_toArray, List.length_take]
    omega
  · exact h
theorem lit_short {z : Str} (h : litS z = true) : z.length ≤ 9 := by
  have h8 : (bareS z).length ≤ 8 := by
    unfold litS lowZ at h
    rw [Bool.and_eq_true, Bool.and_eq_true] at h
    exact of_decide_eq_true h.1.2
  unfold bareS at h8
  rw [StrLaws.removeprefix_eq] at h8
  by_cases c : (decide (0 + dash.length ≤ z.length) && Builtin.Str.subAt z dash 0) = true
  · rw [if_pos c] at h8
    have h9 : ((z.cps.toList.drop 1).take (z.length - 1)).toArray.size ≤ 8 := h8
    rw [List.size_toArray, List.length_take, List.length_drop, Array.length_toList] at h9
    have e : z.length = z.cps.size := rfl
    omega
  · rw [if_neg c] at h8
    omega
theorem str_ext {x y : Str} (h : x.cps.toList = y.cps.toList) : x = y := by
  cases x with
  | mk a =>
    cases y with
    | mk b =>
      have e : a.toList = b.toList := h
      rw [Array.ext' e]
theorem cps_cat (x y : Str) : (x ++ y).cps.toList = x.cps.toList ++ y.cps.toList := by
  show (x.cps ++ y.cps).toList = _
  rw [Array.toList_append]
theorem dash_cps : dash.cps.toList = [45] := by decide +kernel
theorem sub_dash (z : Str) : Builtin.Str.subAt z dash 0 = decide (z.cps.toList.take 1 = [45]) := by
  show (z.cps.extract 0 (0 + dash.length) == dash.cps) = _
  have e1 : dash.length = 1 := by decide +kernel
  rw [e1]
  by_cases h : z.cps.toList.take 1 = [45]
  · rw [decide_eq_true h, beq_iff_eq]
    refine Array.ext' ?_
    rw [Array.toList_extract, dash_cps]
    simpa using h
  · rw [decide_eq_false h, beq_eq_false_iff_ne]
    intro e
    refine h ?_
    have e2 := congrArg Array.toList e
    rw [Array.toList_extract, dash_cps] at e2
    simpa using e2
theorem neg_eq (z : Str) : negS z = decide (z.cps.toList.take 1 = [45]) := by
  unfold negS Txt.startswith
  rw [sub_dash]
  by_cases h : z.cps.toList.take 1 = [45]
  · rw [decide_eq_true h, Bool.and_true]
    have e1 : dash.length = 1 := by decide +kernel
    have e2 := congrArg List.length h
    rw [List.length_take, Array.length_toList, List.length_singleton] at e2
    have e3 : z.length = z.cps.size := rfl
    exact decide_eq_true (by omega)
  · rw [decide_eq_false h, Bool.and_false]
theorem bare_eq (z : Str) : (bareS z).cps.toList = if negS z = true then z.cps.toList.drop 1 else z.cps.toList := by
  unfold bareS
  rw [StrLaws.removeprefix_eq]
  have e : (decide (0 + dash.length ≤ z.length) && Builtin.Str.subAt z dash 0) = negS z := rfl
  rw [e]
  by_cases c : negS z = true
  · rw [if_pos c, if_pos c]
    have e1 : dash.length = 1 := by decide +kernel
    show ((z.cps.toList.drop dash.length).take (z.length - dash.length)).toArray.toList = _
    rw [e1, List.toList_toArray, List.take_of_length_le]
    rw [List.length_drop, Array.length_toList]
    exact Nat.le_refl _
  · rw [if_neg c, if_neg c]
/-- the first sign -/
theorem first_cps {z : Str} (h : 1 ≤ z.length) : ∃ c, z.cps.toList[0]? = some c ∧ negS z = decide (c = 45) := by
  obtain ⟨c, r, e⟩ : ∃ c r, z.cps.toList = c :: r := by
    cases e : z.cps.toList with
    | nil =>
      have hl : z.cps.toList.length = z.length := Array.length_toList
      rw [e] at hl
      exact absurd h (by rw [← hl]; exact Nat.not_succ_le_zero 0)
    | cons c r => exact ⟨c, r, rfl⟩
  refine ⟨c, by rw [e]; rfl, ?_⟩
  rw [neg_eq, e]
  by_cases q : c = 45
  · rw [decide_eq_true q, q]
    rfl
  · rw [decide_eq_false q]
    refine decide_eq_false fun z => q ?_
    have z2 : [c] = [45] := z
    injection z2
theorem cut_one {z : Str} (h : 1 ≤ z.length) (n : negS z = true) : cutS z (some 1) none = bareS z := by
  refine str_ext ?_
  rw [bare_eq, if_pos n]
  show ((z.cps.toList.drop (HT.sIx z.length 0 (some ((1 : Nat) : Int)))).take (HT.sIx z.length z.length none - HT.sIx z.length 0 (some ((1 : Nat) : Int)))).toArray.toList = _
  rw [HT.sIx_nat, HT.sIx_none, List.toList_toArray]
  have e : min 1 z.length = 1 := by omega
  rw [e, List.take_of_length_le]
  rw [List.length_drop, Array.length_toList]
  exact Nat.le_refl _
theorem one_sign (c : Nat) : decide (V.str ⟨#[c]⟩ = V.str dash) = decide (c = 45) := by
  by_cases h : c = 45
  · subst h
    rw [decide_eq_true (show V.str ⟨#[45]⟩ = V.str dash by decide +kernel), decide_eq_true rfl]
  · rw [decide_eq_false h]
    refine decide_eq_false fun e => h ?_
    injection e with e
    have e2 : (⟨#[c]⟩ : Str).cps.toList = dash.cps.toList := by rw [e]
    rw [dash_cps] at e2
    have e3 : [c] = [45] := e2
    injection e3
/-- what the quick tests together say -/
def lowT (z : Str) : Bool := Txt.isascii z && (Txt.isalpha z && Txt.islower z)
theorem abc_ok : (abc.all fun c => decide (c < 128) && Unicode.isAlpha c && Unicode.isLower c && !(Unicode.isUpper c || Unicode.isTitle c)) = true := by decide +kernel
theorem low128 : ((List.range 128).all fun c => !Unicode.isAlpha c || (Unicode.isUpper c || Unicode.isTitle c) || decide (c ∈ abc)) = true := by decide +kernel
theorem low_fast (z : Str) : lowZ z = (decide (z.length ≤ 8) && lowT z) := by
  have hl : z.cps.toList.length = z.length := Array.length_toList
  have a1 : Txt.isascii z = z.cps.toList.all (fun c => decide (c < 128)) := (Array.all_toList ..).symm
  have a2 : Txt.isalpha z = (decide (z.length > 0) && z.cps.toList.all Unicode.isAlpha) := by
    unfold Txt.isalpha
    rw [Array.all_toList]
  have a3 : Txt.islower z = (z.cps.toList.any Unicode.isLower && !z.cps.toList.any fun c => Unicode.isUpper c || Unicode.isTitle c) := by
    unfold Txt.islower
    rw [Array.any_toList, Array.any_toList]
  unfold lowZ lowT
  rw [a1, a2, a3]
  generalize z.cps.toList = l at hl ⊢
  have ok := List.all_eq_true.mp abc_ok
  have lo := List.all_eq_true.mp low128
  rw [Bool.eq_iff_iff]
  simp only [Bool.and_eq_true, decide_eq_true_eq, List.all_eq_true, List.any_eq_true, Bool.not_eq_true', List.any_eq_false, Bool.or_eq_true] at *
  constructor
  · rintro ⟨⟨h1, h8⟩, h⟩
    refine ⟨h8, fun c hc => (ok c (h c hc)).1.1.1, ⟨h1, fun c hc => (ok c (h c hc)).1.1.2⟩, ?_, fun c hc => ?_⟩
    · cases l with
      | nil =>
        rw [← hl] at h1
        exact absurd h1 (by simp)
      | cons c r => exact ⟨c, List.mem_cons_self, (ok c (h c List.mem_cons_self)).1.2⟩
    · have q := (ok c (h c hc)).2
      intro k
      simp at q
      rcases k with k | k
      · rw [q.1] at k
        cases k
      · rw [q.2] at k
        cases k
  · rintro ⟨h8, has, ⟨h1, hal⟩, _, hup⟩
    refine ⟨⟨h1, h8⟩, fun c hc => ?_⟩
    have q := lo c (List.mem_range.mpr (has c hc))
    rcases q with (q | q) | q
    · rw [hal c hc] at q
      cases q
    · exact absurd q (hup c hc)
    · exact q
/-! ### lists of literals -/
def ltS (a b : Str) : Bool := decide (a.cps.toList < b.cps.toList)
def ascS (ys : List Str) : Bool := (ys.zip (ys.drop 1)).all fun p => ltS p.1 p.2
def hasS (ys : List Str) : Bool := ys.any fun y => decide (oppS y ∈ ys)
/-- by the signs alone -/
def conS (ys : List Str) : Bool := (ys.filter negS).any fun y => decide (bareS y ∈ ys)
theorem dash_back {y : Str} (h : ¬ negS y = true) : negS (dash ++ y) = true ∧ bareS (dash ++ y) = y := by
  have n : negS (dash ++ y) = true := by
    rw [neg_eq, cps_cat, dash_cps]
    rfl
  refine ⟨n, str_ext ?_⟩
  rw [bare_eq, if_pos n, cps_cat, dash_cps]
  rfl
theorem con_has (ys : List Str) : conS ys = hasS ys := by
  rw [Bool.eq_iff_iff]
  unfold conS hasS
  rw [List.any_eq_true, List.any_eq_true]
  constructor
  · rintro ⟨y, hy, h⟩
    obtain ⟨h1, h2⟩ := List.mem_filter.mp hy
    refine ⟨y, h1, ?_⟩
    have e : oppS y = bareS y := if_pos h2
    rw [e]
    exact h
  · rintro ⟨y, hy, h⟩
    by_cases c : negS y = true
    · have e : oppS y = bareS y := if_pos c
      rw [e] at h
      exact ⟨y, List.mem_filter.mpr ⟨hy, c⟩, h⟩
    · have e : oppS y = dash ++ y := if_neg c
      rw [e] at h
      obtain ⟨n, b⟩ := dash_back c
      refine ⟨dash ++ y, List.mem_filter.mpr ⟨of_decide_eq_true h, n⟩, decide_eq_true ?_⟩
      rw [b]
      exact hy
def strsV (xs : List V) : List Str := xs.filterMap fun | .str z => some z | _ => none
def clV (xs : List V) : Bool := xs.all litV && ascS (strsV xs) && !hasS (strsV xs)
theorem strs_of_lit : ∀ {xs : List V}, xs.all litV = true → xs = (strsV xs).map V.str
  | [], _ => rfl
  | x :: xs, h => by
    rw [List.all_cons, Bool.and_eq_true] at h
    cases x with
    | str z =>
      have e := strs_of_lit h.2
      show V.str z :: xs = V.str z :: (strsV xs).map V.str
      rw [← e]
    | _ => exact (Bool.false_ne_true h.1).elim
theorem lit_pos {z : Str} (h : litS z = true) : 1 ≤ z.length := by
  unfold litS lowZ at h
  rw [Bool.and_eq_true, Bool.and_eq_true] at h
  have h1 := of_decide_eq_true h.1.1
  by_cases n : negS z = true
  · have e := bare_eq z
    rw [if_pos n] at e
    have hl : (bareS z).cps.toList.length = (bareS z).length := Array.length_toList
    have hz : z.cps.toList.length = z.length := Array.length_toList
    rw [e, List.length_drop] at hl
    omega
  · rw [bare_of_pos n] at h1
    exact h1
/-- the walk: each a literal, greater than the one ahead -/
def walkC : Str → List V → Bool
  | _, [] => true
  | last, .str z :: xs => litS z && ltS last z && walkC z xs
  | _, _ :: _ => false
theorem walkC_cons (last : Str) (x : V) (xs : List V) (h : litV x = false) : walkC last (x :: xs) = false := by
  cases x with
  | str z =>
    have e : litS z = false := h
    show (litS z && ltS last z && walkC z xs) = false
    rw [e, Bool.false_and, Bool.false_and]
  | _ => rfl
theorem asc_two (a b : Str) (r : List Str) : ascS (a :: b :: r) = (ltS a b && ascS (b :: r)) := rfl
theorem walkC_all : ∀ (xs : List V) (last : Str), walkC last xs = (xs.all litV && ascS (last :: strsV xs))
  | [], _ => rfl
  | x :: xs, last => by
    cases x with
    | str z =>
      show (litS z && ltS last z && walkC z xs) = ((litS z && xs.all litV) && ascS (last :: z :: strsV xs))
      rw [walkC_all xs z, asc_two]
      cases litS z <;> cases ltS last z <;> cases xs.all litV <;> rfl
    | _ => rfl
theorem lt_empty {z : Str} (h : 1 ≤ z.length) : ltS "" z = true := by
  unfold ltS
  have hl : z.cps.toList.length = z.length := Array.length_toList
  cases e : z.cps.toList with
  | nil =>
    rw [e] at hl
    have : (0 : Nat) = z.length := hl
    omega
  | cons c r => exact decide_eq_true (List.nil_lt_cons c r)
theorem walkC_top (xs : List V) : walkC "" xs = (xs.all litV && ascS (strsV xs)) := by
  rw [walkC_all]
  by_cases c : xs.all litV = true
  · rw [c, Bool.true_and, Bool.true_and]
    have e := strs_of_lit c
    rw [e, List.all_map] at c
    cases s : strsV xs with
    | nil => rfl
    | cons z r =>
      rw [s] at c
      rw [List.all_cons, Bool.and_eq_true] at c
      rw [asc_two, lt_empty (lit_pos c.1), Bool.true_and]
  · rw [Bool.eq_false_iff.mpr c, Bool.false_and, Bool.false_and]
theorem clV_walk (xs : List V) : clV xs = (walkC "" xs && !hasS (strsV xs)) := by
  rw [walkC_top]
  rfl
end My
end

section
set_option Elab.async false
set_option linter.all false
set_option maxRecDepth 100000
set_option maxHeartbeats 4000000
namespace MyS
open PySem PySem.Spec PyProof.Rows PySem.Froz L2
/-- the payload D holds the texts L, each once; its table rises and can be walked -/
structure Dk (P : Program) (w : World) (D : SD) (L : List Str) : Prop where
  ok : TxOk P w D L
  nd : L.Nodup
  ris : Ris D.2.2.place.toList
  led : w.params.followText "set-order" = true ∨ D.2.2.led = true
theorem tail_walk {w : World} {ep : Nat} {es : Array (Int × Value)} {t : SetTable} {b : Bool} (r : Ris t.place.toList) (l : w.params.followText "set-order" = true ∨ t.led = true) :
    Ris (tailTx ep es t b).2.2.place.toList ∧ (w.params.followText "set-order" = true ∨ (tailTx ep es t b).2.2.led = true) := by
  unfold tailTx
  split
  · exact ⟨relayAll_ris t es _, l.imp id fun z => (relayAll_led t es _).trans z⟩
  · exact ⟨r, l⟩
theorem Dk.add {P : Program} {w : World} {D : SD} {L : List Str} {k : Str} (u : Tok) (F : Dk P w D L) (hk : k ∉ L) : Dk P w (addTx (hashStr w k) (.str k u) D) (k :: L) := by
  obtain ⟨es, ep, t⟩ := D
  have r1 := layNew_ris t es (hashStr w k) (.str k u) F.ris
  have l1 : w.params.followText "set-order" = true ∨ (layNew t es (hashStr w k) (.str k u)).2.1.led = true := F.led.imp id fun z => (layNew_led t es _ _).trans z
  have q : Ris (addTx (hashStr w k) (.str k u) (es, ep, t)).2.2.place.toList ∧ (w.params.followText "set-order" = true ∨ (addTx (hashStr w k) (.str k u) (es, ep, t)).2.2.led = true) := by
    unfold addTx
    refine tail_walk ?_ ?_
    · dsimp only
      split
      · exact r1
      · exact r1
    · dsimp only
      split
      · exact l1
      · exact l1
  exact ⟨add_ok u F.ok, List.nodup_cons.mpr ⟨hk, F.nd⟩, q.1, q.2⟩
theorem dk_fresh {P : Program} {w : World} : Dk P w (#[], 0, .fresh 0 0 (!w.params.followText "set-order")) [] where
  ok := TxOk.nil (by rfl)
  nd := List.nodup_nil
  ris := List.Pairwise.nil
  led := by
    show _ ∨ (!w.params.followText "set-order") = true
    cases w.params.followText "set-order"
    · exact .inr rfl
    · exact .inl rfl
section
variable {P : Program} {w : World} {A : Around} {E : Value → Shared → Prop} {s : Shared}
/-- a text that is in is not laid again -/
theorem add_in {a : Addr} {T : String} {D : SD} {l : List Str} {k : Str} {u : Tok} {Q : Bool → Shared → Prop} (ho : s.heap.get? a = some (sObj T D)) (F : TxOk P w D l) (hk : k ∈ l) (hb : l.length < scanBound)
    (h : Q false s) : wpAny (model P w) A (setAddHashed a (.str k u) (hashStr w k)) Q E s := by
  obtain ⟨es, ep, t⟩ := D
  have z : es.size < scanBound := Nat.lt_of_le_of_lt (Nat.le_of_eq F.sz) hb
  obtain ⟨e, he, pe⟩ := (F.mem k).mp hk
  unfold setAddHashed setAddHashedIn
  refine wpAny_holding (wpAny_bind (wpAny_setState_of (es := es) (ep := ep) (t := t) ho rfl F.fit ?_))
  simp only [byScan_of (x := Value.str k u) rfl z F.el, ↓reduceIte]
  unfold setAddByScan
  refine wpAny_bind (wpAny_bind (wpAny_rule (wpAny_bind (wpAny_setScan_of (knd := strKind P w) (k := k) (is_str k u) ho rfl F.fit F.el ?_))))
  cases hf : List.findIdx? (fun e => (strKind P w).is k e.2) es.toList with
  | some j => exact wpAny_pure (wpAny_pure h)
  | none =>
    have c := List.findIdx?_eq_none_iff.mp hf e he
    rw [pe] at c
    cases c
/-- a text comes to a set, new or not -/
theorem add_any {a : Addr} {D : SD} {L : List Str} {k : Str} {u : Tok} {Q : Bool → Shared → Prop} (ho : s.heap.get? a = some (sObj "set" D)) (F : Dk P w D L) (hb : L.length + 1 < scanBound)
    (h : ∀ (b : Bool) (h' : Heap) (D' : SD) (L' : List Str), Heap.SameBut a s.heap h' → h'.get? a = some (sObj "set" D') → Dk P w D' L' → (∀ y, y ∈ L' ↔ y ∈ L ∨ y = k) → L'.length ≤ L.length + 1 → Q b { s with heap := h' }) :
    wpAny (model P w) A (setAddHashed a (.str k u) (hashStr w k)) Q E s := by
  by_cases hk : k ∈ L
  · refine add_in ho F.ok hk (by omega) (h false s.heap D L (Heap.SameBut.refl a s.heap) ho F (fun y => ⟨.inl, fun z => z.elim id fun e => e ▸ hk⟩) (by omega))
  · refine add_x ho F.ok hk hb (h true _ _ (k :: L) (Heap.SameBut.update s.heap a _) (get_upd _ ho rfl) (F.add u hk) (fun y => by rw [List.mem_cons]; exact Or.comm) (by rw [List.length_cons]; omega))
/-- what a walk gives, all texts, comes to a set -/
theorem upd_loop {I : Addr} {fp wr : List Addr} {G : Array GenState → Array GenState → Prop} {n : Nat} {Pv : Nat → Value → Prop} {St : Nat → Shared → Prop} {R : Result → Shared → Prop}
    (W : WalksS P w A.in1 I fp wr G n Pv St) (S : Addr) (nf : S ∉ fp) (ys : List Str) (hb : n + 1 < scanBound) (hv : ∀ i v, Pv i v → ∃ k t, ys[i]? = some k ∧ v = Value.str k t) :
    ∀ (m i : Nat) (s : Shared) (D : SD) (L : List Str), i + m = n → St i s → s.heap.get? S = some (sObj "set" D) → Dk P w D L → (∀ y, y ∈ L ↔ y ∈ ys.take i) → L.length ≤ i →
      (∀ s' D' L', Moved (S :: wr) G s s' → s'.heap.get? S = some (sObj "set" D') → Dk P w D' L' → (∀ y, y ∈ L' ↔ y ∈ ys.take n) → L'.length ≤ n → R (.ok (.ret .none)) s') →
      codeAny (model P w) A (.builtin "set.update.loop" ⟨[.ref S, .ref I], []⟩) R s := by
  have nw : S ∉ wr := fun h => nf (W.sub _ h)
  have up : ∀ b ∈ wr, b ∈ S :: wr := fun b hb => List.mem_cons_of_mem _ hb
  intro m
  induction m with
  | zero =>
    rintro i s D L rfl hst ho F hm hl fin
    refine codeAny_builtin PyProof.Rows.F.entry_set_update_loop ?_
    rw [Around.under_plainId PyProof.Rows.F.plain_set_update_loop _]
    refine wpAny_bind (m := pyNext (.ref I)) (W.done s _ _ hst fun s' mv => wpAny_pure (fin s' D L (mv.mono up) (mv.heap S _ nw ho) F hm hl))
  | succ m ih =>
    intro i s D L hi hst ho F hm hl fin
    refine codeAny_builtin PyProof.Rows.F.entry_set_update_loop ?_
    rw [Around.under_plainId PyProof.Rows.F.plain_set_update_loop _]
    refine wpAny_bind (m := pyNext (.ref I)) (W.item i s _ _ (by omega) hst fun v s1 hp st1 mv => ?_)
    obtain ⟨k, t, hk, rfl⟩ := hv i v hp
    refine wpAny_bind (m := holding [Value.str k t] (setAdd S (.str k t))) (wpAny_holding ?_)
    unfold setAdd
    refine wpAny_holding (wpAny_bind ((strKind P w).pyHash (k := k) (is_str k t) ?_))
    refine add_any (s := { s1 with toks := s1.toks + 1 }) (D := D) (L := L) (mv.heap S _ nw ho) F (by omega) fun b h2 D2 L2 sb ho2 F2 hm2 hl2 => ?_
    refine wpAny_pure ⟨plainId_quiet PyProof.Rows.F.plain_set_update_loop _, ih (i + 1) _ D2 L2 (by omega) (W.frame _ s1 _ _ st1 (Nat.le_succ _) fun b hb o e => (sb.2 b fun z => nf (z ▸ hb)).trans e) ho2 F2 (fun y => ?_) (by omega) fun s3 D3 L3 mv3 ho3 F3 hm3 hl3 => ?_⟩
    · rw [hm2, hm, List.take_add_one, hk, List.mem_append]
      simp
    · exact fin s3 D3 L3 (Moved.trans W.gtrans ((mv.mono up).then_heap (Nat.le_succ _) fun b o hb e => (sb.2 b fun z => hb (z ▸ List.mem_cons_self)).trans e) mv3) ho3 F3 hm3 hl3
/-- the heap with a new empty set -/
abbrev hSet (w : World) (h : Heap) : Heap := h.push (sObj "set" (#[], 0, .fresh 0 0 (!w.params.followText "set-order")))

/-- the set's filling from a list -/
theorem fill_list {S l : Addr} {items : Array Value} {ys : List Str} {Q : Shared → Prop} (hh : A.handled = none) (hS : s.heap.get? S = some (sObj "set" (#[], 0, .fresh 0 0 (!w.params.followText "set-order")))) (hl : s.heap.IsList l items) (ne : S ≠ l)
    (hi : ∀ (i : Nat) (v : Value), items[i]? = some v → ∃ k t, ys[i]? = some k ∧ v = Value.str k t) (hz : items.size = ys.length) (hb : ys.length + 1 < scanBound)
    (h : ∀ s' D L, (∀ b o, b ≠ S → s.heap.get? b = some o → s'.heap.get? b = some o) → s'.gens = s.gens → s'.drawn = s.drawn → s'.os = s.os → s'.heap.get? S = some (sObj "set" D) → Dk P w D L → (∀ y, y ∈ L ↔ y ∈ ys) → L.length ≤ ys.length → Q s') :
    wpAny (model P w) A (Builtin.Frozenset.updateFrom "set.__init__" S (.ref l)) (fun _ s' => Q s') E s := by
  obtain ⟨⟨cls, dict, data, slots⟩, hol, hcl, nl, hdl⟩ := id hl
  simp only at hcl hdl
  subst hcl; subst hdl
  have f1 := F.sub_list_set
  have f2 := F.sub_list_frozenset
  have f3 : (Value.type "list" == Value.type "dict") = false := by decide
  have big : S < s.heap.objs.size := Heap.lt_size hS
  have lbig : l < s.heap.objs.size := Heap.lt_size hol
  unfold Builtin.Frozenset.updateFrom
  generalize hPI : pyIter = PI
  wp_walk
  subst hPI
  refine wpAny_pyIter_list hl ?_
  refine wpAny_bind (wpAny_runValue ?_)
  have hI : l ≠ s.heap.objs.size := Nat.ne_of_lt lbig
  refine upd_loop ((Walks.list (A := A.in1) hh s.heap.objs.size l hI items).toS) S (by
    simp only [List.mem_cons, List.not_mem_nil, or_false, not_or]
    exact ⟨Nat.ne_of_lt big, ne⟩) ys (by rw [hz]; exact hb) hi items.size 0 _ (#[], 0, .fresh 0 0 (!w.params.followText "set-order")) [] (Nat.zero_add _) ⟨⟨_, Heap.get?_push_size _ rfl, rfl, rfl⟩, hl.push _⟩ (Heap.get?_push_of_some _ hS) dk_fresh
    (fun y => by simp) (Nat.le_refl _) fun s' D L mv ho F hm hn => ?_
  refine wpAny_pure (h s' D L (fun b o hb e => mv.heap b o (fun z => ?_) (Heap.get?_push_of_some _ e)) mv.gens mv.drawn mv.os ho F (fun y => ?_) (by rw [← hz]; exact hn))
  · rcases List.mem_cons.mp z with z | z
    · exact hb z
    · rw [List.mem_singleton] at z
      exact absurd z (Nat.ne_of_lt (Heap.lt_size e))
  · rw [hm, hz, List.take_length]

/-- set(xs) of a list of texts -/
theorem set_of_list {l : Addr} {items : Array Value} {ys : List Str} {Q : Value → Shared → Prop} (hh : A.handled = none) (hl : s.heap.IsList l items) (hi : ∀ (i : Nat) (v : Value), items[i]? = some v → ∃ k t, ys[i]? = some k ∧ v = Value.str k t)
    (hz : items.size = ys.length) (hb : ys.length + 1 < scanBound)
    (h : ∀ s' D L, (∀ b o, s.heap.get? b = some o → s'.heap.get? b = some o) → s'.gens = s.gens → s'.drawn = s.drawn → s'.os = s.os → s'.heap.get? s.heap.objs.size = some (sObj "set" D) → Dk P w D L → (∀ y, y ∈ L ↔ y ∈ ys) → L.length ≤ ys.length →
      Q (.ref s.heap.objs.size) s') : wpAny (model P w) A (call (.type "set") [.ref l]) Q E s := by
  obtain ⟨c, tl, mro⟩ := F.called_set.mro
  have g1 := F.called_set.made
  have g2 := F.called_set.sub
  have g3 := F.called_set.notType
  have g4 := F.called_set.canCreate
  have g5 := F.typeCall_set_1 (.ref l)
  refine wpAny_call (codeAny_of_tree (wpAny_pure (M := model P w) (A := A.in1) (a := _) ⟨Code.quiet_builtin _ (by decide +kernel), codeAny_builtin F.entry_type_call ?_⟩))
  rw [Around.under_plain (weight_type_call_type "set" [.ref l] []) rfl]
  repeat (any_goals (first | assumption | wp_step))
  refine codeAny_mono (code_set_led1 (.ref l) (E := E) (Q₁ := fun u s1 => u = .ref s.heap.objs.size ∧ s1 = { s with heap := hSet w s.heap }) ⟨rfl, rfl⟩) fun r s1 z => ?_
  match r, z with
  | .ok (.ret u), ⟨e1, e2⟩ =>
    subst e1; subst e2
    have hS : (hSet w s.heap).get? s.heap.objs.size = some (sObj "set" (#[], 0, .fresh 0 0 (!w.params.followText "set-order"))) := Heap.get?_push_size _ rfl
    have g6 := F.called_set.init.lookup
    have g7 := F.called_set.init.bind (.ref s.heap.objs.size)
    have ty : Shared.TypeIs { s with heap := hSet w s.heap } (.ref s.heap.objs.size) "set" := ⟨_, hS, rfl⟩
    repeat (any_goals (first | assumption | wp_step))
    refine codeAny_mono (codeAny_call_builtin (R := wants (fun u s2 => u = .none ∧ Q (.ref s.heap.objs.size) s2) E) F.called_set.init.plain F.entry_set_init (check_set_init_1 ty ?_)) fun r2 s2 z2 => ?_
    · obtain ⟨⟨cls, dict, data, slots⟩, hol, rest⟩ := id hl
      have lne : s.heap.objs.size ≠ l := Nat.ne_of_gt (Heap.lt_size hol)
      unfold Builtin.«set.__init__» noKeywords
      generalize hUF : Builtin.Frozenset.updateFrom = UF
      wp_walk
      subst hUF
      refine fill_list (s := { s with heap := hSet w s.heap }) hh hS (hl.push _) lne hi hz hb fun s' D L keep e1 e2 e3 ho F hm hn => ?_
      repeat (any_goals (first | assumption | wp_step))
      exact ⟨rfl, h s' D L (fun b o e => keep b o (Nat.ne_of_lt (Heap.lt_size e)) (Heap.get?_push_of_some _ e)) e1 e2 e3 ho F hm hn⟩
    · match r2, z2 with
      | .ok (.ret u2), ⟨e3, q⟩ =>
        repeat (any_goals (first | assumption | wp_step))
      | .error e, z2 => exact z2
  | .error e, z => exact z

/-- the set's filling from a tuple -/
theorem fill_tuple {S l : Addr} {items : Array Value} {ys : List Str} {Q : Shared → Prop} (hh : A.handled = none) (hS : s.heap.get? S = some (sObj "set" (#[], 0, .fresh 0 0 (!w.params.followText "set-order")))) (hl : s.heap.IsTuple l items) (ne : S ≠ l)
    (hi : ∀ (i : Nat) (v : Value), items[i]? = some v → ∃ k t, ys[i]? = some k ∧ v = Value.str k t) (hz : items.size = ys.length) (hb : ys.length + 1 < scanBound)
    (h : ∀ s' D L, (∀ b o, b ≠ S → s.heap.get? b = some o → s'.heap.get? b = some o) → s'.gens = s.gens → s'.drawn = s.drawn → s'.os = s.os → s'.heap.get? S = some (sObj "set" D) → Dk P w D L → (∀ y, y ∈ L ↔ y ∈ ys) → L.length ≤ ys.length → Q s') :
    wpAny (model P w) A (Builtin.Frozenset.updateFrom "set.__init__" S (.ref l)) (fun _ s' => Q s') E s := by
  obtain ⟨⟨cls, dict, data, slots⟩, hol, hcl, nl, hdl⟩ := id hl
  simp only at hcl hdl
  subst hcl; subst hdl
  have f1 := F.sub_tuple_set
  have f2 := F.sub_tuple_frozenset
  have f3 : (Value.type "tuple" == Value.type "dict") = false := by decide
  have big : S < s.heap.objs.size := Heap.lt_size hS
  have lbig : l < s.heap.objs.size := Heap.lt_size hol
  unfold Builtin.Frozenset.updateFrom
  generalize hPI : pyIter = PI
  wp_walk
  subst hPI
  refine wpAny_pyIter_tuple hl ?_
  refine wpAny_bind (wpAny_runValue ?_)
  have hI : l ≠ s.heap.objs.size := Nat.ne_of_lt lbig
  refine upd_loop ((Walks.tuple (A := A.in1) hh s.heap.objs.size l hI items).toS) S (by
    simp only [List.mem_cons, List.not_mem_nil, or_false, not_or]
    exact ⟨Nat.ne_of_lt big, ne⟩) ys (by rw [hz]; exact hb) hi items.size 0 _ (#[], 0, .fresh 0 0 (!w.params.followText "set-order")) [] (Nat.zero_add _) ⟨⟨_, Heap.get?_push_size _ rfl, rfl, rfl⟩, hl.push _⟩ (Heap.get?_push_of_some _ hS) dk_fresh
    (fun y => by simp) (Nat.le_refl _) fun s' D L mv ho F hm hn => ?_
  refine wpAny_pure (h s' D L (fun b o hb e => mv.heap b o (fun z => ?_) (Heap.get?_push_of_some _ e)) mv.gens mv.drawn mv.os ho F (fun y => ?_) (by rw [← hz]; exact hn))
  · rcases List.mem_cons.mp z with z | z
    · exact hb z
    · rw [List.mem_singleton] at z
      exact absurd z (Nat.ne_of_lt (Heap.lt_size e))
  · rw [hm, hz, List.take_length]

/-- set(xs) of a tuple of texts -/
theorem set_of_tuple {l : Addr} {items : Array Value} {ys : List Str} {Q : Value → Shared → Prop} (hh : A.handled = none) (hl : s.heap.IsTuple l items) (hi : ∀ (i : Nat) (v : Value), items[i]? = some v → ∃ k t, ys[i]? = some k ∧ v = Value.str k t)
    (hz : items.size = ys.length) (hb : ys.length + 1 < scanBound)
    (h : ∀ s' D L, (∀ b o, s.heap.get? b = some o → s'.heap.get? b = some o) → s'.gens = s.gens → s'.drawn = s.drawn → s'.os = s.os → s'.heap.get? s.heap.objs.size = some (sObj "set" D) → Dk P w D L → (∀ y, y ∈ L ↔ y ∈ ys) → L.length ≤ ys.length →
      Q (.ref s.heap.objs.size) s') : wpAny (model P w) A (call (.type "set") [.ref l]) Q E s := by
  obtain ⟨c, tl, mro⟩ := F.called_set.mro
  have g1 := F.called_set.made
  have g2 := F.called_set.sub
  have g3 := F.called_set.notType
  have g4 := F.called_set.canCreate
  have g5 := F.typeCall_set_1 (.ref l)
  refine wpAny_call (codeAny_of_tree (wpAny_pure (M := model P w) (A := A.in1) (a := _) ⟨Code.quiet_builtin _ (by decide +kernel), codeAny_builtin F.entry_type_call ?_⟩))
  rw [Around.under_plain (weight_type_call_type "set" [.ref l] []) rfl]
  repeat (any_goals (first | assumption | wp_step))
  refine codeAny_mono (code_set_led1 (.ref l) (E := E) (Q₁ := fun u s1 => u = .ref s.heap.objs.size ∧ s1 = { s with heap := hSet w s.heap }) ⟨rfl, rfl⟩) fun r s1 z => ?_
  match r, z with
  | .ok (.ret u), ⟨e1, e2⟩ =>
    subst e1; subst e2
    have hS : (hSet w s.heap).get? s.heap.objs.size = some (sObj "set" (#[], 0, .fresh 0 0 (!w.params.followText "set-order"))) := Heap.get?_push_size _ rfl
    have g6 := F.called_set.init.lookup
    have g7 := F.called_set.init.bind (.ref s.heap.objs.size)
    have ty : Shared.TypeIs { s with heap := hSet w s.heap } (.ref s.heap.objs.size) "set" := ⟨_, hS, rfl⟩
    repeat (any_goals (first | assumption | wp_step))
    refine codeAny_mono (codeAny_call_builtin (R := wants (fun u s2 => u = .none ∧ Q (.ref s.heap.objs.size) s2) E) F.called_set.init.plain F.entry_set_init (check_set_init_1 ty ?_)) fun r2 s2 z2 => ?_
    · obtain ⟨⟨cls, dict, data, slots⟩, hol, rest⟩ := id hl
      have lne : s.heap.objs.size ≠ l := Nat.ne_of_gt (Heap.lt_size hol)
      unfold Builtin.«set.__init__» noKeywords
      generalize hUF : Builtin.Frozenset.updateFrom = UF
      wp_walk
      subst hUF
      refine fill_tuple (s := { s with heap := hSet w s.heap }) hh hS (hl.push _) lne hi hz hb fun s' D L keep e1 e2 e3 ho F hm hn => ?_
      repeat (any_goals (first | assumption | wp_step))
      exact ⟨rfl, h s' D L (fun b o e => keep b o (Nat.ne_of_lt (Heap.lt_size e)) (Heap.get?_push_of_some _ e)) e1 e2 e3 ho F hm hn⟩
    · match r2, z2 with
      | .ok (.ret u2), ⟨e3, q⟩ =>
        repeat (any_goals (first | assumption | wp_step))
      | .error e, z2 => exact z2
  | .error e, z => exact z
end
end MyS
end

section
set_option Elab.async false
set_option linter.all false
set_option maxRecDepth 100000
set_option maxHeartbeats 4000000
namespace MyS
open PySem PySem.Spec PyProof.Rows PySem.Froz L2
/-- the set of the texts L at a, in no order -/
def SetTx (P : Program) (w : World) (a : Addr) (L : List Str) : HO := .ext fun h => ∃ D, h.get? a = some (sObj "set" D) ∧ Dk P w D L
theorem settx_ok {P : Program} {w : World} {H : Hp} {h : Heap} {a : Addr} {L : List Str} (R : ∃ D, h.get? a = some (sObj "set" D) ∧ Dk P w D L) : ObjOk P w H h a (SetTx P w a L) := by
  obtain ⟨D, ho, F⟩ := id R
  exact ⟨R, ⟨_, ho⟩, fun h1 h2 p k => by
    obtain ⟨D2, ho2, F2⟩ := p
    exact ⟨D2, k _ ho2, F2⟩⟩
theorem elems_strs : ∀ {l : List Value}, (∀ v ∈ l, ∃ k t, v = Value.str k t) → ∃ ss : List Str, StrsAre l ss
  | [], _ => ⟨[], .nil⟩
  | v :: l, h => by
    obtain ⟨k, t, rfl⟩ := h v (List.mem_cons_self ..)
    obtain ⟨ss, hs⟩ := elems_strs fun u hu => h u (List.mem_cons_of_mem _ hu)
    exact ⟨k :: ss, .cons k t hs⟩
theorem is_of {P : Program} {w : World} {k : Str} {v : Value} (h : (strKind P w).is k v = true) : ∃ t, v = Value.str k t := Value.isStrOf_shape (x := k) (v := v) h
theorem perm_of_sub : ∀ {L ss : List Str}, L.Nodup → (∀ y, y ∈ L → y ∈ ss) → ss.length ≤ L.length → L.Perm ss
  | [], ss, _, _, h => by
    have e : ss = [] := List.eq_nil_of_length_eq_zero (Nat.le_zero.mp h)
    rw [e]
  | x :: L, ss, n, m, h => by
    obtain ⟨n1, n2⟩ := List.nodup_cons.mp n
    have hx := m x (List.mem_cons_self ..)
    have hz := List.length_erase_of_mem hx
    rw [List.length_cons] at h
    have q := perm_of_sub (ss := ss.erase x) n2 (fun y hy => (List.mem_erase_of_ne fun (e : y = x) => n1 (e ▸ hy)).mpr (m y (List.mem_cons_of_mem _ hy))) (by omega)
    exact (q.cons x).trans (List.perm_cons_erase hx).symm
theorem strs_mem : ∀ {l : List Value} {ss : List Str}, StrsAre l ss → ∀ {y : Str} {t : Tok}, Value.str y t ∈ l → y ∈ ss
  | _, _, .nil, y, t, h => by cases h
  | _, _, .cons k u r, y, t, h => by
    rcases List.mem_cons.mp h with z | z
    · injection z with z1 z2
      rw [z1]
      exact List.mem_cons_self ..
    · exact List.mem_cons_of_mem _ (strs_mem r z)
section
variable {X : Cx}
theorem seq_vals {ys : List Str} {its : List Value} (r : Vals (ys.map V.str) its) : (∀ (i : Nat) (v : Value), its.toArray[i]? = some v → ∃ k t, ys[i]? = some k ∧ v = Value.str k t) ∧ its.toArray.size = ys.length := by
  have hl : its.toArray.size = ys.length := by rw [List.size_toArray, ← r.length, List.length_map]
  refine ⟨fun i v hv => ?_, hl⟩
  have hi : i < ys.length := by rw [← hl]; exact (Array.getElem?_eq_some_iff.mp hv).1
  obtain ⟨u, hu, t, e⟩ := r.get (i := i) (x := .str ys[i]) (by simp [hi])
  have e2 : its[i]? = some v := by simpa using hv
  rw [hu] at e2
  cases e2
  exact ⟨ys[i], t, List.getElem?_eq_getElem hi, e⟩
theorem inv_back {pins : List (Addr × Obj)} {σ : L2.St} {H : Hp} {s s' : Shared} {a : Addr} {o : HO} (I : Inv X pins σ H s) (k : ∀ b u, s.heap.get? b = some u → s'.heap.get? b = some u) (g : s'.gens = s.gens) (os : s'.os = s.os)
    (la : s.heap.objs.size ≤ a) (ok : ObjOk X.prog X.w (upd H a o) s'.heap a o) : Inv X pins σ (upd H a o) s' := by
  have J : Inv X pins σ (upd H a o) { heap := s'.heap, gens := s'.gens, drawn := s'.drawn, toks := s'.toks, os := s.os } :=
    I.call (ch := []) (Un.laid k la (I.hok.fresh la)) (I.hok.laid k la ok) (by rw [g]; exact I.bare) (fun _ z => nomatch z)
  cases s'
  cases os
  exact J
/-- set(xs) of a list or a tuple of texts -/
def rSetTx (K : PySem.W.Frag) (P : Program) (w : World) : List V → Hp → VK → Prop := fun xs H Q => ∃ (l : Addr) (ys : List Str), xs = [V.ref l] ∧ (SqL K H l (ys.map V.str) ∨ SqT K H l (ys.map V.str)) ∧ ys.length + 1 < 4096 ∧
  ∀ a L, H a = none → L.Nodup → (∀ y, y ∈ L ↔ y ∈ ys) → L.length ≤ ys.length → Q (.ref a) (upd H a (SetTx P w a L))
theorem cr_setTx (hc : X.calm = true) : CallR X (.type "set") (rSetTx X.K X.prog X.w) := by
  intro pins s σ H xs us Q I r h
  obtain ⟨l, ys, rfl, hl, hb, q⟩ := h
  rw [Vals.ref1 r]
  have fin : ∀ s' D L, (∀ b o, s.heap.get? b = some o → s'.heap.get? b = some o) → s'.gens = s.gens → s'.drawn = s.drawn → s'.os = s.os → s'.heap.get? s.heap.objs.size = some (sObj "set" D) → Dk X.prog X.w D L → (∀ y, y ∈ L ↔ y ∈ ys) → L.length ≤ ys.length →
      EP X pins σ Q (.ref s.heap.objs.size) s' := fun s' D L k g d os ho F hm hn =>
    ⟨.ref _, _, inv_back I k g os (Nat.le_refl _) (settx_ok ⟨D, ho, F⟩), rfl, q _ L (I.hok.fresh (Nat.le_refl _)) F.nd hm hn⟩
  rcases hl with hl | hl
  · obtain ⟨its, rv, pl, hz⟩ := I.list hl
    exact set_of_list (I.ok.hd hc) pl.isList (seq_vals rv).1 (seq_vals rv).2 hb fin
  · obtain ⟨its, rv, pl, hz⟩ := I.tuple hl
    exact set_of_tuple (I.ok.hd hc) pl (seq_vals rv).1 (seq_vals rv).2 hb fin
theorem settx_at {pins : List (Addr × Obj)} {σ : L2.St} {H : Hp} {s : Shared} {a : Addr} {L : List Str} (I : Inv X pins σ H s) (ha : H a = some (SetTx X.prog X.w a L)) : ∃ D, s.heap.get? a = some (sObj "set" D) ∧ Dk X.prog X.w D L := (I.hok a _ ha).1
/-- the payload's texts, in its own order -/
theorem dk_texts {P : Program} {w : World} {D : SD} {L : List Str} (F : Dk P w D L) : ∃ ss, StrsAre (D.1.toList.map (·.2)) ss ∧ ss.Perm L := by
  obtain ⟨ss, hs⟩ := elems_strs (l := D.1.toList.map (·.2)) fun v hv => by
    obtain ⟨e, he, rfl⟩ := List.mem_map.mp hv
    obtain ⟨⟨k, q, _⟩, _⟩ := F.ok.el e he
    obtain ⟨t, z⟩ := is_of q
    exact ⟨k, t, z⟩
  refine ⟨ss, hs, ?_⟩
  have len : ss.length = L.length := by
    have e := hs.length
    rw [List.length_map, Array.length_toList, F.ok.sz] at e
    exact e.symm
  have mem : ∀ y, y ∈ L → y ∈ ss := fun y hy => by
    obtain ⟨e, he, q⟩ := (F.ok.mem y).mp hy
    obtain ⟨t, z⟩ := is_of q
    exact strs_mem hs (t := t) (List.mem_map.mpr ⟨e, he, z⟩)
  exact (perm_of_sub F.nd mem (Nat.le_of_eq len)).symm
/-- sorted(s) of a set of texts -/
def rSortTx (P : Program) (w : World) : List V → Hp → VK → Prop := fun xs H Q => ∃ (a : Addr) (L : List Str), xs = [V.ref a] ∧ H a = some (SetTx P w a L) ∧ L.length < 64 ∧
  ∀ ys p, ys.Perm L → sortedS ys = true → H p = none → Q (.ref p) (upd H p (.lst (ys.map V.str)))
theorem cr_sortTx (hc : X.calm = true) : CallR X (.builtin "sorted") (rSortTx X.prog X.w) := by
  intro pins s σ H xs us Q I r h
  obtain ⟨a, L, rfl, ha, few, q⟩ := h
  rw [Vals.ref1 r]
  obtain ⟨⟨es, ep, t⟩, ho, F⟩ := settx_at I ha
  obtain ⟨ss, hs, pm⟩ := dk_texts F
  have sz : es.size = L.length := F.ok.sz
  refine Calls.call_function_entry PyProof.Rows.kind_sorted PyProof.Rows.plain_sorted PyProof.Rows.entry_sorted (PyProof.Rows.args_sorted1 _) ?_
  unfold Builtin.«sorted»
  refine wpAny_bind (m := checkCount "sorted" 1 1 _) (wpAny_pure (wpAny_bind (collect_set (A := X.A.in1) (I.ok.hd hc) ⟨_, ho, rfl, rfl⟩ F.ok.fit (by rw [sz]; unfold scanBound; omega) F.ris F.led fun s1 out k1 z1 g1 o1 p1 => ?_)))
  obtain ⟨so, hso⟩ := elems_strs (l := out) fun v hv => by
    obtain ⟨k, t, e⟩ := hs.all v (p1.mem_iff.mp hv)
    exact ⟨k, t, e⟩
  have po : so.Perm ss := by
    have e1 := p1.map strOf
    rw [hso.strs, hs.strs] at e1
    exact e1
  have ol : out.length < 64 := by
    rw [hso.length, po.length_eq, pm.length_eq]
    exact few
  refine wpAny_bind (wpAny_newList ?_ (by rw [sizeLine_eq]; omega))
  have hoL : (s1.heap.push (seqObj "list" out.toArray 0)).get? s1.heap.objs.size = some (seqObj "list" out.toArray 0) := Heap.get?_push_size _ rfl
  refine wpAny_bind (wpAny_holding (wpAny_call_entry PyProof.Rows.slot_list_sort ⟨_, hoL, rfl⟩ PyProof.Rows.entry_list_sort (list_sort_treeK strKind_oneLt hoL hso.keysOf (fun v₁ v₂ rest e => keyKind_strs (by rw [← e]; exact hso)) ol fun st' hp hq => ⟨_, rfl, ?_⟩)
    (PyProof.Rows.args_list_sort _)))
  obtain ⟨ys, y1, y2, y3⟩ := sorted_out_str hso hp hq
  obtain ⟨c, hc2⟩ := PyProof.Rows.sortedHeap_at (vs := out) (out := (arrOf st').map (·.2)) hoL
  have old : ∀ b u, s.heap.get? b = some u → (sortedHeap (s1.heap.push (seqObj "list" out.toArray 0)) s1.heap.objs.size out ((arrOf st').map (·.2))).get? b = some u := fun b u e => by
    have e1 := k1 b u e
    have lt := Heap.lt_size e1
    rw [PyProof.Rows.sortedHeap_old (Nat.ne_of_lt lt) (by rw [size_push']; exact Nat.lt_succ_of_lt lt)]
    exact Heap.get?_push_of_some _ e1
  have len : (ys.map V.str).length ≤ sizeLine := by
    rw [List.length_map, y2.length_eq, po.length_eq, pm.length_eq, sizeLine_eq]
    omega
  exact wpAny_pure ⟨_, rfl, .ref s1.heap.objs.size, _, inv_back (o := .lst (ys.map V.str)) I old g1 o1 z1 (show ObjOk X.prog X.w _ _ _ (.lst (ys.map V.str)) from ⟨len, ((arrOf st').map (·.2)).toList, c, vals_of_strs y1, by rw [Array.toArray_toList]; exact hc2⟩), rfl,
    q ys _ (y2.trans (po.trans pm)) y3 (I.hok.fresh z1)⟩
/-- len(s) of a set of texts -/
def rLenTx (P : Program) (w : World) : List V → Hp → VK → Prop := fun xs H Q => ∃ (a : Addr) (L : List Str), xs = [V.ref a] ∧ H a = some (SetTx P w a L) ∧ L.length < 4096 ∧ Q (.int L.length) H
theorem cr_lenTx : CallR X (.builtin "len") (rLenTx X.prog X.w) := by
  intro pins s σ H xs us Q I r h
  obtain ⟨a, L, rfl, ha, few, q⟩ := h
  rw [Vals.ref1 r]
  obtain ⟨⟨es, ep, t⟩, ho, F⟩ := settx_at I ha
  have sz : es.size = L.length := F.ok.sz
  exact call_len_set ho ⟨rfl, rfl, rfl⟩ rfl F.ok.fit (by show (es.size : Int) < 2 ^ 63; omega) ⟨.int L.length, H, I.tok _, ⟨_, by rw [sz]⟩, q⟩
end
end MyS
end

section
set_option Elab.async false
set_option linter.all false
set_option maxRecDepth 100000
set_option maxHeartbeats 4000000
namespace MyF
open PySem PySem.Spec PyProof.Rows L2
theorem same_refl (H : Hp) : Same H H := fun _ _ e => e
theorem same_new {H : Hp} {p : Addr} {o : HO} (n : H p = none) : Same H (upd H p o) := fun b u e => by
  rw [upd_ne (ne_of_none e n)]
  exact e
theorem same_trans {H H1 H2 : Hp} (a : Same H H1) (b : Same H1 H2) : Same H H2 := fun c u e => b c u (a c u e)
theorem same_free {H H1 : Hp} (a : Same H H1) {p : Addr} (n : H1 p = none) : H p = none := by
  cases e : H p with
  | none => rfl
  | some o =>
    rw [a p o e] at n
    cases n
/-- what a comprehension of n turns makes, where nothing that stood is changed: F i is the item of turn i, if it has one -/
theorem fm_it {J : It} {n : Nat} {G : Hp → Prop} {Y : Nat → Hp → V → Hp → Prop} (w : Walk J n G Y) {g : TG} {tt : TT} {te : TE} {vs : List Nat} {σ : L2.St} {H1 : Hp} {D : Addr} {Qd : Hp → Prop} (F : Nat → Option V) (nD : H1 D = none) (few : n < sizeLine)
    (hG : ∀ H, Same H1 H → G H)
    (turn : ∀ i x H H' (Ψ : V → Hp → Prop) (Θ : Hp → Prop), i < n → Same H1 H → Y i H x H' → (∀ y H5, F i = some y → Same H H5 → Ψ y H5) → (∀ H5, F i = none → Same H H5 → Θ H5) →
      g x (wipe σ vs) H' fun σ2 H2 => wipe σ2 vs = wipe σ vs ∧ tt σ2 H2 fun b H3 => if b = true then te σ2 H3 Ψ else Θ H3)
    (done : ∀ H2, Same H1 H2 → H2 D = some (.lst ((List.range n).filterMap F)) → Qd H2) :
    ∃ W : Nat → Nat → Hp → Prop, (∃ m, W 0 m (upd H1 D (.lst []))) ∧ ∀ i m H, W i m H →
      (J.stop i H ∧ Qd H) ∨ (J.go i H ∧ ∃ Nx : Hp → Prop, (∀ H', Nx H' → ∃ m', m' < m ∧ W (i + 1) m' H') ∧ ∀ x H', J.yld i H x H' → g x (wipe σ vs) H' fun σ2 H2 => wipe σ2 vs = wipe σ vs ∧ tt σ2 H2 fun b H3 =>
        if b = true then te σ2 H3 fun y H4 => ∃ acc, H4 D = some (.lst acc) ∧ acc.length < sizeLine ∧ Nx (upd H4 D (.lst (acc ++ [y]))) else Nx H3) := by
  refine lc_it w (fun i H => Same H1 H ∧ H D = some (.lst ((List.range i).filterMap F)) ∧ i ≤ n) ⟨same_new nD, upd_same, Nat.zero_le _⟩ (fun i H _ h => hG H h.1) ?_ (fun H h => done H h.1 h.2.1)
  rintro i x H H' hi ⟨s, hd, _⟩ y
  refine turn i x H H' _ _ hi s y (fun z H5 e s5 => ⟨_, s5 D _ hd, ?_, ?_, ?_, hi⟩) (fun H5 e s5 => ⟨same_trans s s5, ?_, hi⟩)
  · exact Nat.lt_of_le_of_lt (Nat.le_trans (List.length_filterMap_le ..) (by rw [List.length_range]; omega)) few
  · exact fun b o e2 => by
      rw [upd_ne (ne_of_none e2 nD)]
      exact s5 b o (s b o e2)
  · rw [upd_same, List.range_succ, List.filterMap_append]
    simp [e]
  · rw [s5 D _ hd, List.range_succ, List.filterMap_append]
    simp [e]
theorem range_fm {α β : Type} (f : α → Option β) (xs : List α) : (List.range xs.length).filterMap (fun i => (xs[i]?).bind f) = xs.filterMap f := by
  have go : ∀ n, n ≤ xs.length → (List.range n).filterMap (fun i => (xs[i]?).bind f) = (xs.take n).filterMap f := by
    intro n
    induction n with
    | zero => intro _; rfl
    | succ n ih =>
      intro h
      rw [List.range_succ, List.filterMap_append, ih (by omega), List.take_add_one, List.filterMap_append]
      congr 1
      cases e : xs[n]? <;> simp [List.filterMap_cons, e]
  rw [go _ (Nat.le_refl _), List.take_length]
/-- a walk by either of two rules -/
def iOr (a b : TI) : TI := fun σ H R => a σ H R ∨ b σ H R
theorem pi_or {X : Cx} {tg it : Expr} {a b : TI} (h : PI X tg it a) (k : PI X tg it b) : PI X tg it (iOr a b) :=
  ⟨fun pins s σ H R I q => q.elim (h.run pins s σ H R I) (k.run pins s σ H R I)⟩
/-- a list or a tuple -/
def Sq (K : PySem.W.Frag) (H : Hp) (a : Addr) (xs : List V) : Prop := SqL K H a xs ∨ SqT K H a xs
theorem sqL_same {K : PySem.W.Frag} {H H' : Hp} {a : Addr} {xs : List V} (h : SqL K H a xs) (s : Same H H') : SqL K H' a xs := by
  rcases h with (h | ⟨o, h⟩) | h
  · exact .inl (.inl (s _ _ h))
  · exact .inl (.inr ⟨o, s _ _ h⟩)
  · exact .inr h
theorem sqT_same {K : PySem.W.Frag} {H H' : Hp} {a : Addr} {xs : List V} (h : SqT K H a xs) (s : Same H H') : SqT K H' a xs := by
  rcases h with (h | ⟨o, h⟩) | h
  · exact .inl (.inl (s _ _ h))
  · exact .inl (.inr ⟨o, s _ _ h⟩)
  · exact .inr h
theorem Sq.same {K : PySem.W.Frag} {H H' : Hp} {a : Addr} {xs : List V} (h : Sq K H a xs) (s : Same H H') : Sq K H' a xs := h.imp (sqL_same · s) (sqT_same · s)
abbrev iSq (K : PySem.W.Frag) (i : Nat) : TI := iOr (iList K (tVar i)) (iTup K (tVar i))
theorem pi_sq {X : Cx} {tg e : Expr} {i : Nat} (h : PE X e (tVar i)) : PI X tg e (iSq X.K i) := pi_or (pi_list h) (pi_tup h)
/-- a comprehension over slot i, a list or a tuple, that changes nothing -/
theorem seq_lc {K : PySem.W.Frag} {a : Addr} {xs : List V} {i : Nat} {g : TG} {tt : TT} {te : TE} {vs : List Nat} {σ : L2.St} {H : Hp} {Q : V → Hp → Prop} (F : V → Option V) (hσ : σ[i]? = some (some (.ref a))) (hS : Sq K H a xs) (few : xs.length < sizeLine)
    (turn : ∀ x H2 (Ψ : V → Hp → Prop) (Θ : Hp → Prop), x ∈ xs → Same H H2 → (∀ y H5, F x = some y → Same H2 H5 → Ψ y H5) → (∀ H5, F x = none → Same H2 H5 → Θ H5) →
      g x (wipe σ vs) H2 fun σ2 H2 => wipe σ2 vs = wipe σ vs ∧ tt σ2 H2 fun b H3 => if b = true then te σ2 H3 Ψ else Θ H3)
    (done : ∀ H2 D, Same H H2 → H D = none → H2 D = some (.lst (xs.filterMap F)) → Q (.ref D) H2) : tLc (iSq K i) g tt te vs σ H Q := by
  have go : ∀ (J : It) (G : Hp → Prop) (D : Addr), H D = none → Walk J xs.length G (YAt xs) → (∀ H2, Same H H2 → G H2) → _ := fun J G D nD w hG =>
    fm_it (g := g) (tt := tt) (te := te) (vs := vs) (σ := σ) (Qd := fun H2 => Q (.ref D) H2) w (fun i => (xs[i]?).bind F) nD few hG
      (fun i x H2 H3 Ψ Θ hi s2 y yes no => by
        obtain ⟨rfl, hx⟩ := y
        exact turn x H3 Ψ Θ (List.mem_of_getElem? hx) s2 (fun y H5 e s5 => yes y H5 (by rw [hx]; exact e) s5) fun H5 e s5 => no H5 (by rw [hx]; exact e) s5)
      fun H2 s2 h2 => done H2 D s2 nD (by rw [h2, range_fm])
  rcases hS with hS | hS
  · exact .inl ⟨_, hσ, a, rfl, ⟨xs, hS⟩, fun D nD => go _ _ D nD walk_list fun H2 s2 => sqL_same hS s2⟩
  · exact .inr ⟨_, hσ, a, rfl, ⟨xs, hS⟩, fun D nD => go _ _ D nD walk_tup fun H2 s2 => sqT_same hS s2⟩
/-- a comprehension over a tuple at a, that changes nothing -/
theorem tup_lc {K : PySem.W.Frag} {a : Addr} {xs : List V} {g : TG} {tt : TT} {te : TE} {vs : List Nat} {σ : L2.St} {H : Hp} {Q : V → Hp → Prop} (F : V → Option V) (hS : SqT K H a xs) (few : xs.length < sizeLine)
    (turn : ∀ x H2 (Ψ : V → Hp → Prop) (Θ : Hp → Prop), x ∈ xs → Same H H2 → (∀ y H5, F x = some y → Same H2 H5 → Ψ y H5) → (∀ H5, F x = none → Same H2 H5 → Θ H5) →
      g x (wipe σ vs) H2 fun σ2 H2 => wipe σ2 vs = wipe σ vs ∧ tt σ2 H2 fun b H3 => if b = true then te σ2 H3 Ψ else Θ H3)
    (done : ∀ H2 D, Same H H2 → H D = none → H2 D = some (.lst (xs.filterMap F)) → Q (.ref D) H2) (D : Addr) (nD : H D = none) :
    ∃ W : Nat → Nat → Hp → Prop, (∃ m, W 0 m (upd H D (.lst []))) ∧ ∀ i m H, W i m H →
      ((Itt K a).stop i H ∧ Q (.ref D) H) ∨ ((Itt K a).go i H ∧ ∃ Nx : Hp → Prop, (∀ H', Nx H' → ∃ m', m' < m ∧ W (i + 1) m' H') ∧ ∀ x H', (Itt K a).yld i H x H' → g x (wipe σ vs) H' fun σ2 H2 => wipe σ2 vs = wipe σ vs ∧ tt σ2 H2 fun b H3 =>
        if b = true then te σ2 H3 fun y H4 => ∃ acc, H4 D = some (.lst acc) ∧ acc.length < sizeLine ∧ Nx (upd H4 D (.lst (acc ++ [y]))) else Nx H3) :=
  fm_it (g := g) (tt := tt) (te := te) (vs := vs) (σ := σ) (Qd := fun H2 => Q (.ref D) H2) walk_tup (fun i => (xs[i]?).bind F) nD few (fun H2 s2 => sqT_same hS s2)
      (fun i x H2 H3 Ψ Θ hi s2 y yes no => by
        obtain ⟨rfl, hx⟩ := y
        exact turn x H3 Ψ Θ (List.mem_of_getElem? hx) s2 (fun y H5 e s5 => yes y H5 (by rw [hx]; exact e) s5) fun H5 e s5 => no H5 (by rw [hx]; exact e) s5)
      fun H2 s2 h2 => done H2 D s2 nD (by rw [h2, range_fm])
/-- t + u, in one way -/
theorem cat_any {K : PySem.W.Frag} {H : Hp} {a b : Addr} {xs ys : List V} {Q : V → Hp → Prop} (h1 : SqT K H a xs) (h2 : SqT K H b ys) (few : xs.length + ys.length ≤ sizeLine) (k : ∀ H' p, Same H H' → SqT K H' p (xs ++ ys) → Q (.ref p) H') :
    rCatA K (.ref a) (.ref b) H Q :=
  ⟨a, b, xs, ys, rfl, rfl, h1, h2, few, fun e => k H b (same_refl H) (by rw [e]; exact h2), fun _ e => k H a (same_refl H) (by rw [e, List.append_nil]; exact h1), fun _ _ p np => k _ p (same_new np) (SqT.of upd_same)⟩
/-- a comprehension over the sum of the tuples in slots i and j -/
theorem cat_lc {K : PySem.W.Frag} {a b : Addr} {xs ys : List V} {i j : Nat} {g : TG} {tt : TT} {te : TE} {vs : List Nat} {σ : L2.St} {H : Hp} {Q : V → Hp → Prop} (F : V → Option V) (e1 : σ[i]? = some (some (.ref a))) (e2 : σ[j]? = some (some (.ref b)))
    (S1 : SqT K H a xs) (S2 : SqT K H b ys) (few : (xs ++ ys).length < sizeLine)
    (turn : ∀ x H2 (Ψ : V → Hp → Prop) (Θ : Hp → Prop), x ∈ xs ++ ys → Same H H2 → (∀ y H5, F x = some y → Same H2 H5 → Ψ y H5) → (∀ H5, F x = none → Same H2 H5 → Θ H5) →
      g x (wipe σ vs) H2 fun σ2 H2 => wipe σ2 vs = wipe σ vs ∧ tt σ2 H2 fun b H3 => if b = true then te σ2 H3 Ψ else Θ H3)
    (done : ∀ H2 D, Same H H2 → H D = none → H2 D = some (.lst ((xs ++ ys).filterMap F)) → Q (.ref D) H2) : tLc (iTup K (tOp (rCatA K) (tVar i) (tVar j))) g tt te vs σ H Q := by
  refine ⟨_, e1, _, e2, cat_any S1 S2 (by rw [← List.length_append]; exact Nat.le_of_lt few) fun H2 p s2 hp => ⟨p, rfl, ⟨_, hp⟩, fun D nD => ?_⟩⟩
  exact tup_lc (Q := Q) F hp few (fun x H3 Ψ Θ hx s3 yes no => turn x H3 Ψ Θ hx (same_trans s2 s3) yes no) (fun H3 D s3 nD h3 => done H3 D (same_trans s2 s3) (same_free s2 nD) h3) D nD
/-- a comprehension over a list at a, that changes nothing, its list at D -/
theorem lstD {K : PySem.W.Frag} {a D : Addr} {xs : List V} {g : TG} {tt : TT} {te : TE} {vs : List Nat} {σ : L2.St} {H : Hp} {Qd : Hp → Prop} (F : V → Option V) (hS : SqL K H a xs) (few : xs.length < sizeLine) (nD : H D = none)
    (turn : ∀ x H2 (Ψ : V → Hp → Prop) (Θ : Hp → Prop), x ∈ xs → Same H H2 → (∀ y H5, F x = some y → Same H2 H5 → Ψ y H5) → (∀ H5, F x = none → Same H2 H5 → Θ H5) →
      g x (wipe σ vs) H2 fun σ2 H2 => wipe σ2 vs = wipe σ vs ∧ tt σ2 H2 fun b H3 => if b = true then te σ2 H3 Ψ else Θ H3)
    (done : ∀ H2, Same H H2 → H2 D = some (.lst (xs.filterMap F)) → Qd H2) :
    ∃ W : Nat → Nat → Hp → Prop, (∃ m, W 0 m (upd H D (.lst []))) ∧ ∀ i m H, W i m H →
      ((Itl K a).stop i H ∧ Qd H) ∨ ((Itl K a).go i H ∧ ∃ Nx : Hp → Prop, (∀ H', Nx H' → ∃ m', m' < m ∧ W (i + 1) m' H') ∧ ∀ x H', (Itl K a).yld i H x H' → g x (wipe σ vs) H' fun σ2 H2 => wipe σ2 vs = wipe σ vs ∧ tt σ2 H2 fun b H3 =>
        if b = true then te σ2 H3 fun y H4 => ∃ acc, H4 D = some (.lst acc) ∧ acc.length < sizeLine ∧ Nx (upd H4 D (.lst (acc ++ [y]))) else Nx H3) :=
  fm_it (g := g) (tt := tt) (te := te) (vs := vs) (σ := σ) (Qd := Qd) walk_list (fun i => (xs[i]?).bind F) nD few (fun H2 s2 => sqL_same hS s2)
      (fun i x H2 H3 Ψ Θ hi s2 y yes no => by
        obtain ⟨rfl, hx⟩ := y
        exact turn x H3 Ψ Θ (List.mem_of_getElem? hx) s2 (fun y H5 e s5 => yes y H5 (by rw [hx]; exact e) s5) fun H5 e s5 => no H5 (by rw [hx]; exact e) s5)
      fun H2 s2 h2 => done H2 s2 (by rw [h2, range_fm])
/-- new tuples ts, one for each item of xs -/
inductive Tups (H : Hp) (F : V → List V) : List Addr → List V → Prop
  | nil : Tups H F [] []
  | snoc {ts : List Addr} {xs : List V} {t : Addr} {x : V} (r : Tups H F ts xs) (h : H t = some (.tup (F x))) : Tups H F (ts ++ [t]) (xs ++ [x])
theorem Tups.same {H H' : Hp} {F : V → List V} {ts : List Addr} {xs : List V} (h : Tups H F ts xs) (s : Same H H') : Tups H' F ts xs := by
  induction h with
  | nil => exact .nil
  | snoc r e ih => exact .snoc ih (s _ _ e)
theorem Tups.len {H : Hp} {F : V → List V} {ts : List Addr} {xs : List V} (h : Tups H F ts xs) : ts.length = xs.length := by
  induction h with
  | nil => rfl
  | snoc r e ih => rw [List.length_append, List.length_append, ih]; rfl
theorem Tups.upd {H : Hp} {F : V → List V} {ts : List Addr} {xs : List V} {D : Addr} {l : List V} {o : HO} (h : Tups H F ts xs) (hd : H D = some (.lst l)) : Tups (L2.upd H D o) F ts xs := by
  induction h with
  | nil => exact .nil
  | snoc r e ih =>
    refine .snoc ih ?_
    rw [upd_ne]
    · exact e
    · rintro rfl
      rw [e] at hd
      cases hd
theorem tups_it {J : It} {xs : List V} {G : Hp → Prop} (w : Walk J xs.length G (YAt xs)) {g : TG} {tt : TT} {te : TE} {vs : List Nat} {σ : L2.St} {H1 : Hp} {D : Addr} {Qd : Hp → Prop} (F : V → List V) (nD : H1 D = none) (few : xs.length < sizeLine)
    (hG : ∀ H, Same H1 H → G H)
    (turn : ∀ x H2 (Ψ : V → Hp → Prop) (Θ : Hp → Prop), x ∈ xs → Same H1 H2 → (∀ t H5, Same H2 H5 → H5 t = some (.tup (F x)) → Ψ (.ref t) H5) →
      g x (wipe σ vs) H2 fun σ2 H2 => wipe σ2 vs = wipe σ vs ∧ tt σ2 H2 fun b H3 => if b = true then te σ2 H3 Ψ else Θ H3)
    (done : ∀ H2 ts, Same H1 H2 → H2 D = some (.lst (ts.map V.ref)) → Tups H2 F ts xs → Qd H2) :
    ∃ W : Nat → Nat → Hp → Prop, (∃ m, W 0 m (upd H1 D (.lst []))) ∧ ∀ i m H, W i m H →
      (J.stop i H ∧ Qd H) ∨ (J.go i H ∧ ∃ Nx : Hp → Prop, (∀ H', Nx H' → ∃ m', m' < m ∧ W (i + 1) m' H') ∧ ∀ x H', J.yld i H x H' → g x (wipe σ vs) H' fun σ2 H2 => wipe σ2 vs = wipe σ vs ∧ tt σ2 H2 fun b H3 =>
        if b = true then te σ2 H3 fun y H4 => ∃ acc, H4 D = some (.lst acc) ∧ acc.length < sizeLine ∧ Nx (upd H4 D (.lst (acc ++ [y]))) else Nx H3) := by
  refine lc_it w (fun i H => Same H1 H ∧ i ≤ xs.length ∧ ∃ ts, H D = some (.lst (ts.map V.ref)) ∧ Tups H F ts (xs.take i)) ⟨same_new nD, Nat.zero_le _, [], upd_same, .nil⟩ (fun i H _ h => hG H h.1) ?_
    (fun H h => by
      obtain ⟨s, _, ts, hd, tp⟩ := h
      rw [List.take_length] at tp
      exact done H ts s hd tp)
  rintro i x H H' hi ⟨s, hi2, ts, hd, tp⟩ ⟨rfl, hx⟩
  refine turn x H' _ _ (List.mem_of_getElem? hx) s fun t H5 s5 ht => ?_
  have hd5 := s5 D _ hd
  have nt : t ≠ D := by
    rintro rfl
    rw [ht] at hd5
    cases hd5
  have keep : ∀ b o, H5 b = some o → b ≠ D → upd H5 D (.lst (ts.map V.ref ++ [V.ref t])) b = some o := fun b o e ne => by rw [upd_ne ne]; exact e
  have s6 : Same H1 (upd H5 D (.lst (ts.map V.ref ++ [V.ref t]))) := fun b o e => keep b o (s5 b o (s b o e)) (ne_of_none e nD)
  refine ⟨_, hd5, ?_, s6, hi, ts ++ [t], by rw [upd_same, List.map_append]; rfl, ?_⟩
  · rw [List.length_map, tp.len, List.length_take]
    omega
  · rw [List.take_add_one, hx]
    exact .snoc ((tp.same s5).upd hd5) (keep t _ ht nt)
/-- a comprehension of new tuples over slot i, a list or a tuple -/
theorem tups_seq {K : PySem.W.Frag} {a : Addr} {xs : List V} {i : Nat} {g : TG} {tt : TT} {te : TE} {vs : List Nat} {σ : L2.St} {H : Hp} {Q : V → Hp → Prop} (F : V → List V) (hσ : σ[i]? = some (some (.ref a))) (hS : Sq K H a xs) (few : xs.length < sizeLine)
    (turn : ∀ x H2 (Ψ : V → Hp → Prop) (Θ : Hp → Prop), x ∈ xs → Same H H2 → (∀ t H5, Same H2 H5 → H5 t = some (.tup (F x)) → Ψ (.ref t) H5) →
      g x (wipe σ vs) H2 fun σ2 H2 => wipe σ2 vs = wipe σ vs ∧ tt σ2 H2 fun b H3 => if b = true then te σ2 H3 Ψ else Θ H3)
    (done : ∀ H2 D ts, Same H H2 → H D = none → H2 D = some (.lst (ts.map V.ref)) → Tups H2 F ts xs → Q (.ref D) H2) : tLc (iSq K i) g tt te vs σ H Q := by
  rcases hS with hS | hS
  · exact .inl ⟨_, hσ, a, rfl, ⟨xs, hS⟩, fun D nD => tups_it (Qd := fun H2 => Q (.ref D) H2) walk_list F nD few (fun H2 s2 => sqL_same hS s2) turn fun H2 ts s2 h2 tp => done H2 D ts s2 nD h2 tp⟩
  · exact .inr ⟨_, hσ, a, rfl, ⟨xs, hS⟩, fun D nD => tups_it (Qd := fun H2 => Q (.ref D) H2) walk_tup F nD few (fun H2 s2 => sqT_same hS s2) turn fun H2 ts s2 h2 tp => done H2 D ts s2 nD h2 tp⟩
theorem fm_congr {α β : Type} {f g : α → Option β} : ∀ {l : List α}, (∀ x ∈ l, f x = g x) → l.filterMap f = l.filterMap g
  | [], _ => rfl
  | x :: l, h => by
    rw [List.filterMap_cons, List.filterMap_cons, h x (List.mem_cons_self ..), fm_congr fun y hy => h y (List.mem_cons_of_mem _ hy)]
theorem range_map {α β : Type} (f : α → β) (xs : List α) : (List.range xs.length).filterMap (fun i => (xs[i]?).map f) = xs.map f := by
  have q := range_fm (fun x => some (f x)) xs
  rw [← List.filterMap_eq_map']
  refine Eq.trans (fm_congr fun i _ => ?_) q
  cases xs[i]? <;> rfl
end MyF
end

section
set_option Elab.async false
set_option linter.all false
set_option maxRecDepth 100000
set_option maxHeartbeats 4000000
namespace My
local macro_rules | `(tactic| walk_at "go") => `(tactic| (repeat (first
  | (refine ⟨_, rfl, ?_⟩)
  | (refine ⟨_, _, rfl, rfl, ?_⟩)
  | (refine ⟨_, _, rfl, ?_⟩)
  | (refine ⟨rfl, ?_⟩)
  | (refine Or.inl ⟨_, rfl, ?_⟩)
  | (refine ⟨_, _, _, _, rfl, rfl, L2.SqL.of (by first | assumption | exact L2.upd_same), rfl, ?_⟩)
  | (refine ⟨_, _, _, _, rfl, rfl, (by first | assumption | exact L2.upd_same), rfl, ?_⟩)
  | (refine And.intro (by first | omega | decide | (unfold L2.CPow; decide) | (unfold L2.CMul; omega) | (unfold L2.CDiv; omega)) ?_))))
open PySem PySem.Spec PyProof.Rows L2 TL MyF MyS RZ
def top (i : Nat) : Stmt := PySem.Challenge.pw_lookdepths_k23_whole_ways_to_leaves.main.body.getD i (.Pass ⟨0, 0, 0, 0⟩)
/-- the built-in names that the program's text leaves as they are -/
structure Pts (mg : Str → Option Value) : Prop where
  isinstance : mg "isinstance" = none
  str : mg "str" = none
  len : mg "len" = none
  all : mg "all" = none
  any : mg "any" = none
  tuple : mg "tuple" = none
  list : mg "list" = none
  dict : mg "dict" = none
  sorted : mg "sorted" = none
  set : mg "set" = none
  zip : mg "zip" = none
  most : ∃ t, mg "MOST_LETTERS" = some (.int 8 t)
/-- a value of which it is known whether it is a text -/
def Known (K : PySem.W.Frag) (H : Hp) (v : V) : Prop := (∃ z, v = .str z ∧ z.length ≤ sizeLine) ∨ (∃ t, TyX K H v t ∧ PySem.W.kitOne K t (.type "str") = some false ∧ ∀ z, v ≠ .str z)
theorem tyOf_same {K : PySem.W.Frag} {H H' : Hp} {v : V} {t : Value} (h : TyOf K H v t) (s : Same H H') : TyOf K H' v t := by
  cases h with
  | non => exact .non
  | bl y => exact .bl y
  | int i => exact .int i
  | str y => exact .str y
  | flt y => exact .flt y
  | lst e => exact .lst (s _ _ e)
  | frz e => exact .frz (s _ _ e)
  | tup e => exact .tup (s _ _ e)
  | dK e => exact .dK (s _ _ e)
  | dT e => exact .dT (s _ _ e)
  | ins e cl ha hn htk hm => exact .ins (s _ _ e) cl ha hn htk hm
theorem tyX_same {K : PySem.W.Frag} {H H' : Hp} {v : V} {t : Value} (h : TyX K H v t) (s : Same H H') : TyX K H' v t := by
  cases h with
  | base b => exact .base (tyOf_same b s)
  | byt b => exact .byt b
  | set e => exact .set (s _ _ e)
  | kList e c => exact .kList e c
  | kTuple e c => exact .kTuple e c
  | kDict e c => exact .kDict e c
  | fTuple e => exact .fTuple (s _ _ e)
  | fDict e => exact .fDict (s _ _ e)
theorem Known.same {K : PySem.W.Frag} {H H' : Hp} {v : V} (h : Known K H v) (s : Same H H') : Known K H' v := by
  rcases h with h | ⟨t, a, b, c⟩
  · exact .inl h
  · exact .inr ⟨t, tyX_same a s, b, c⟩
section
variable {P : Program} {w : World} {K : PySem.W.Frag} {mg : Str → Option Value} {base : Heap}
theorem fm_some {α β : Type} (f : α → β) (xs : List α) : xs.filterMap (fun x => some (f x)) = xs.map f := congrFun List.filterMap_eq_map' xs
theorem all_done {α : Type} {H : Hp} {D : Addr} {xs : List α} {b : α → Bool} {Q : VK} (h : H D = some (.lst (xs.filterMap fun x => some (V.bl (b x))))) (q : Q (.bl (xs.all b)) H) : rAll K [.ref D] H Q := by
  rw [fm_some] at h
  refine ⟨D, xs.map b, rfl, SqL.of (by rw [h, List.map_map]; rfl), ?_⟩
  rw [List.all_map]
  exact q
theorem any_done {α : Type} {H : Hp} {D : Addr} {xs : List α} {b : α → Bool} {Q : VK} (h : H D = some (.lst (xs.filterMap fun x => some (V.bl (b x))))) (q : Q (.bl (xs.any b)) H) : rAny K [.ref D] H Q := by
  rw [fm_some] at h
  refine ⟨D, xs.map b, rfl, SqL.of (by rw [h, List.map_map]; rfl), ?_⟩
  rw [List.any_map]
  exact q
/-! ### is_variable -/
abbrev sIsVar : Stmt := top 9
def spIsVar (K : PySem.W.Frag) : Sp := fun vs H Q _ => ∃ v, vs = [v] ∧ Known K H v ∧ ∀ H', Same H H' → Q (.bl (varV v)) H'
theorem sc_isvar : FnScope ["value"] ["value"] (defScope sIsVar) := ⟨rfl, rfl, rfl, by decide +kernel, rfl, by decide +kernel, by decide +kernel⟩
theorem ok_isvar {f : Addr} {fd : FuncData} (G : Fun K "is_variable" "is_variable" sIsVar f fd) (B : Pts mg) : FnOk P w K mg base CX0 1 f fd ["value"] (spIsVar K) := by
  have sc := sc_isvar
  obtain ⟨tM, mM⟩ := B.most
  refine G.ok sc (fun vs H Q E h => ?_) (fun cdv A outer s H vs Q E hr h => ?_)
  · obtain ⟨v, rfl, _⟩ := h
    rfl
  · obtain ⟨v, rfl, kn, k⟩ := h
    refine ⟨_, pss_cons (ps_if (PW.pt (pw_or (pt_not (pt_val (pe_callB call_isi (by rfl) B.isinstance boot_isinstance (pa_cons (pv 0) (pa_cons (pe_bltn (v := .ty "str") (by rfl) B.str boot_str rfl) pa_nil)))))
        (pw_or1 (pt_cmpR op_gt (pe_callB call_len_str (by rfl) B.len boot_len (pa_cons (pv 0) pa_nil)) (pe_glob (v := .int 8) (by rfl) mM ⟨_, rfl⟩) (nomark _))))) (pss_one (ps_ret pe_bl)) pss_nil)
      (pss_one (ps_ret (pe_and (pe_bm0 PySem.F.plainAttrs_str PySem.F.slot_str_isascii PySem.F.type_str_isascii mt_isascii (pv 0))
        (pe_and (pe_bm0 PySem.F.plainAttrs_str PySem.F.slot_str_isalpha PySem.F.type_str_isalpha mt_isalpha (pv 0))
          (pe_one (pe_bm0 PySem.F.plainAttrs_str PySem.F.slot_str_islower PySem.F.type_str_islower mt_islower (pv 0))))))), ?_⟩
    rcases kn with ⟨z, rfl, hz⟩ | ⟨t, ty, ki, ne⟩
    · walk_at "go"
      refine ⟨.str z, .ty "str", _, _, true, rfl, .ty "str", .base (.str z), kit_ty (by decide +kernel), ?_⟩
      walk_at "go"
      refine ite2 (fun c1 => ?_) (fun c1 => ?_)
      · have c1 := of_decide_eq_true c1
        have e : varV (.str z) = false := by
          show lowZ z = false
          rw [low_fast, decide_eq_false (by omega), Bool.false_and]
        have q := k H (same_refl H)
        rw [e] at q
        exact q
      · have c3 : z.length ≤ 8 := by
          rcases Nat.lt_or_ge 8 z.length with h | h
          · exact absurd (decide_eq_true (show ((z.length : Nat) : Int) > 8 by omega)) c1
          · exact h
        have q := k H (same_refl H)
        have e : varV (.str z) = lowT z := by
          show lowZ z = _
          rw [low_fast, decide_eq_true c3, Bool.true_and]
        rw [e] at q
        unfold lowT at q
        refine ⟨_, rfl, rfl, z, rfl, rfl, True.intro, _, rfl, ?_⟩
        refine ite2 (fun i1 => ?_) (fun i1 => ?_)
        · rw [i1, Bool.true_and] at q
          refine ⟨_, rfl, rfl, z, rfl, rfl, True.intro, _, rfl, ?_⟩
          refine ite2 (fun i2 => ?_) (fun i2 => ?_)
          · rw [i2, Bool.true_and] at q
            exact ⟨_, rfl, rfl, z, rfl, rfl, True.intro, q⟩
          · rw [Bool.eq_false_iff.mpr i2, Bool.false_and] at q
            exact q
        · rw [Bool.eq_false_iff.mpr i1, Bool.false_and] at q
          exact q
    · walk_at "go"
      refine ⟨v, .ty "str", _, _, false, rfl, .ty "str", ty, ki, ?_⟩
      have e : varV v = false := by
        cases v with
        | str z => exact absurd rfl (ne z)
        | _ => rfl
      have q := k H (same_refl H)
      rw [e] at q
      exact ⟨_, rfl, q⟩
/-! ### bare, opposite, is_literal -/
abbrev sBare : Stmt := top 12
def spBare : Sp := fun vs H Q _ => ∃ z, vs = [.str z] ∧ z.length ≤ sizeLine ∧ Q (.str (bareS z)) H
theorem sc_bare : FnScope ["literal"] ["literal"] (defScope sBare) := ⟨rfl, rfl, rfl, by decide +kernel, rfl, by decide +kernel, by decide +kernel⟩
theorem ok_bare {f : Addr} {fd : FuncData} (G : Fun K "bare" "bare" sBare f fd) : FnOk P w K mg base CX0 1 f fd ["literal"] spBare := by
  have sc := sc_bare
  refine G.ok sc (fun vs H Q E h => ?_) (fun cdv A outer s H vs Q E hr h => ?_)
  · obtain ⟨v, rfl, _⟩ := h
    rfl
  · obtain ⟨z, rfl, hz, k⟩ := h
    refine ⟨_, pss_one (ps_ret (pe_bm PySem.F.plainAttrs_str PySem.F.slot_str_removeprefix PySem.F.type_str_removeprefix mt_removeprefix (pv 0) (pa_cons pe_str pa_nil))), ?_⟩
    refine ⟨_, rfl, rfl, z, dash, rfl, rfl, hz, k⟩
abbrev sOpp : Stmt := top 13
def spOpp : Sp := fun vs H Q _ => ∃ z, vs = [.str z] ∧ z.length + 1 ≤ sizeLine ∧ Q (.str (oppS z)) H
theorem sc_opp : FnScope ["literal"] ["literal"] (defScope sOpp) := ⟨rfl, rfl, rfl, by decide +kernel, rfl, by decide +kernel, by decide +kernel⟩
theorem ok_opp {f fB : Addr} {fd fdB : FuncData} (G : Fun K "opposite" "opposite" sOpp f fd) (mB : mg "bare" = some (.ref fB)) (GB : Fun K "bare" "bare" sBare fB fdB) (bB : Binds K fdB ["literal"] []) : FnOk P w K mg base CX0 2 f fd ["literal"] spOpp := by
  have sc := sc_opp
  have OB : FnOk P w K mg base CX0 1 fB fdB ["literal"] spBare := ok_bare GB
  refine G.ok sc (fun vs H Q E h => ?_) (fun cdv A outer s H vs Q E hr h => ?_)
  · obtain ⟨v, rfl, _⟩ := h
    rfl
  · obtain ⟨z, rfl, hz, k⟩ := h
    refine ⟨_, pss_cons (ps_if (pt_val (pe_bm PySem.F.plainAttrs_str PySem.F.slot_str_startswith PySem.F.type_str_startswith mt_startswith (pv 0) (pa_cons pe_str pa_nil)))
        (pss_one (ps_ret (pe_call OB hr rfl mB GB.kp bB .nil pass0 (pa_cons (pv 0) pa_nil)))) pss_nil)
      (pss_one (ps_ret (pe_op op_add_str pe_str (pv 0)))), ?_⟩
    refine ⟨_, rfl, rfl, z, dash, rfl, rfl, ?_⟩
    walk_at "go"
    refine ite2 (fun c => ?_) (fun c => ?_)
    · refine ⟨_, rfl, z, rfl, by omega, ?_⟩
      have e : oppS z = bareS z := if_pos c
      rw [e] at k
      exact k
    · have e : oppS z = dash ++ z := if_neg c
      rw [e] at k
      refine ⟨_, rfl, dash, z, rfl, rfl, ?_, k⟩
      show 1 + z.length ≤ sizeLine
      omega
abbrev sIsLit : Stmt := top 10
def spIsLit (K : PySem.W.Frag) : Sp := fun vs H Q _ => ∃ v, vs = [v] ∧ Known K H v ∧ ∀ H', Same H H' → Q (.bl (litV v)) H'
theorem sc_islit : FnScope ["value"] ["value"] (defScope sIsLit) := ⟨rfl, rfl, rfl, by decide +kernel, rfl, by decide +kernel, by decide +kernel⟩
theorem ok_islit {f fV : Addr} {fd fdV : FuncData} (G : Fun K "is_literal" "is_literal" sIsLit f fd) (B : Pts mg)
    (mV : mg "is_variable" = some (.ref fV)) (GV : Fun K "is_variable" "is_variable" sIsVar fV fdV) (bV : Binds K fdV ["value"] []) : FnOk P w K mg base CX0 2 f fd ["value"] (spIsLit K) := by
  have sc := sc_islit
  have OV : FnOk P w K mg base CX0 1 fV fdV ["value"] (spIsVar K) := ok_isvar GV B
  refine G.ok sc (fun vs H Q E h => ?_) (fun cdv A outer s H vs Q E hr h => ?_)
  · obtain ⟨v, rfl, _⟩ := h
    rfl
  · obtain ⟨v, rfl, kn, k⟩ := h
    refine ⟨_, pss_one (ps_ret (pe_and (pe_callB call_isi (by rfl) B.isinstance boot_isinstance (pa_cons (pv 0) (pa_cons (pe_bltn (v := .ty "str") (by rfl) B.str boot_str rfl) pa_nil)))
      (pe_one (pe_call OV hr rfl mV GV.kp bV .nil pass0 (pa_cons (pe_bm PySem.F.plainAttrs_str PySem.F.slot_str_removeprefix PySem.F.type_str_removeprefix mt_removeprefix (pv 0) (pa_cons pe_str pa_nil)) pa_nil))))), ?_⟩
    rcases kn with ⟨z, rfl, hz⟩ | ⟨t, ty, ki, ne⟩
    · walk_at "go"
      refine ⟨.str z, .ty "str", _, _, true, rfl, .ty "str", .base (.str z), kit_ty (by decide +kernel), ?_⟩
      refine ⟨_, rfl, iteT ?_⟩
      exact ⟨_, rfl, rfl, z, dash, rfl, rfl, hz, _, rfl, .inl ⟨_, rfl, bare_le z hz⟩, k⟩
    · walk_at "go"
      refine ⟨v, .ty "str", _, _, false, rfl, .ty "str", ty, ki, ?_⟩
      have e : litV v = false := by
        cases v with
        | str z => exact absurd rfl (ne z)
        | _ => rfl
      have q := k H (same_refl H)
      rw [e] at q
      exact ⟨_, rfl, q⟩
/-! ### in_order -/
abbrev sOrd : Stmt := top 14
def spOrd (K : PySem.W.Frag) : Sp := fun vs H Q _ => ∃ (a : Addr) (ys : List Str), vs = [.ref a] ∧ Sq K H a (ys.map V.str) ∧ ys.length < 64 ∧
  ∀ H' p (rs : List Str), Same H H' → H p = none → H' p = some (.tup (rs.map V.str)) → rs.Nodup → sortedS rs = true → (∀ y, y ∈ rs ↔ y ∈ ys) → rs.length ≤ ys.length → Q (.ref p) H'
theorem sc_ord : FnScope ["literals"] ["literals"] (defScope sOrd) := ⟨rfl, rfl, rfl, by decide +kernel, rfl, by decide +kernel, by decide +kernel⟩
theorem ok_ord {f : Addr} {fd : FuncData} (G : Fun K "in_order" "in_order" sOrd f fd) (B : Pts mg) : FnOk P w K mg base CX0 1 f fd ["literals"] (spOrd K) := by
  have sc := sc_ord
  refine G.ok sc (fun vs H Q E h => ?_) (fun cdv A outer s H vs Q E hr h => ?_)
  · obtain ⟨v, _, rfl, _⟩ := h
    rfl
  · obtain ⟨a, ys, rfl, hS, few, k⟩ := h
    refine ⟨_, pss_one (ps_ret (pe_callTy call_tuple_of (by rfl) B.tuple boot_tuple (pa_cons (pe_callB (cr_sortTx rfl) (by rfl) B.sorted (by decide +kernel) (pa_cons (pe_callTy (cr_setTx rfl) (by rfl) B.set boot_set (pa_cons (pv 0) pa_nil)) pa_nil)) pa_nil))), ?_⟩
    walk_at "go"
    refine ⟨a, ys, rfl, hS, by omega, fun q L nq nd hm hl => ?_⟩
    refine ⟨q, L, rfl, upd_same, by omega, fun rs r pm so nr => ?_⟩
    refine ⟨r, _, rfl, .inl ⟨SqL.of upd_same, fun t nt => ?_⟩⟩
    have s1 := same_new (o := SetTx P w q L) nq
    have s2 := same_trans s1 (same_new (o := .lst (rs.map V.str)) nr)
    exact k _ t rs (same_trans s2 (same_new nt)) (same_free s2 nt) upd_same (pm.nodup_iff.mpr nd) so (fun y => (pm.mem_iff).trans (hm y)) (by rw [pm.length_eq]; exact hl)
/-! ### ascends, are_literals, has_contraries -/
theorem walk_zipT {K : PySem.W.Frag} {a b : Addr} {xs ys : List V} {n : Nat} (hn : n = min xs.length ys.length) : Walk (ItzT K a b) n (fun H => SqT K H a xs ∧ SqT K H b ys) (YPair (fun i => xs[i]?) (fun i => ys[i]?)) := by
  subst hn
  refine ⟨fun i _ hi q => ?_, fun _ q => ⟨xs, ys, q.1, q.2, by omega⟩, fun i H v H' _ q y => ?_⟩
  · exact ⟨xs, ys, xs[i]'(by omega), ys[i]'(by omega), q.1, q.2, by simp [show i < xs.length by omega], by simp [show i < ys.length by omega]⟩
  · obtain ⟨T, x, z, h1, h2, h3, h4, h5⟩ := y
    exact ⟨T, x, z, h1, h2, h3, h4 xs q.1, h5 ys q.2⟩
def spAsc (K : PySem.W.Frag) : Sp := fun vs H Q _ => ∃ (a : Addr) (ys : List Str), vs = [.ref a] ∧ Sq K H a (ys.map V.str) ∧ ys.length < sizeLine ∧ ∀ H', Same H H' → Q (.bl (ascS ys)) H'
theorem cut1 (ys : List Str) : cutV (ys.map V.str) (some 1) none = (ys.drop 1).map V.str := by
  show ((ys.map V.str).drop (HT.sIx (ys.map V.str).length 0 (some ((1 : Nat) : Int)))).take (HT.sIx (ys.map V.str).length (ys.map V.str).length none - HT.sIx (ys.map V.str).length 0 (some ((1 : Nat) : Int))) = _
  rw [HT.sIx_nat, HT.sIx_none, List.length_map, List.map_drop]
  cases ys with
  | nil => rfl
  | cons y ys =>
    have e : min 1 (y :: ys).length = 1 := by rw [List.length_cons]; omega
    rw [e, List.take_of_length_le]
    rw [List.length_drop, List.length_map]
    exact Nat.le_refl _
/-! ### are_literals -/
def spAre (K : PySem.W.Frag) : Sp := fun vs H Q _ => ∃ (a : Addr) (xs : List V), vs = [.ref a] ∧ Sq K H a xs ∧ xs.length < sizeLine ∧ (∀ x ∈ xs, Known K H x) ∧ ∀ H', Same H H' → Q (.bl (xs.all litV)) H'
theorem filt_fm {α β : Type} (f : α → Bool) (g : α → β) : ∀ ys : List α, ys.filterMap (fun y => if f y = true then some (g y) else none) = (ys.filter f).map g
  | [] => rfl
  | y :: ys => by
    rw [List.filterMap_cons, filt_fm f g ys]
    by_cases h : f y = true
    · rw [if_pos h, List.filter_cons_of_pos h]
      rfl
    · rw [if_neg h, List.filter_cons_of_neg h]
/-! ### has_contraries -/
theorem inV_strs (z : Str) (ys : List Str) : inV (.str z) (ys.map V.str) = decide (z ∈ ys) := by
  unfold inV
  rw [List.any_map]
  by_cases h : z ∈ ys
  · rw [decide_eq_true h]
    exact List.any_eq_true.mpr ⟨z, h, beq_self_eq_true z⟩
  · rw [decide_eq_false h]
    refine List.any_eq_false.mpr fun y hy e => h ?_
    have e2 : (y == z) = true := e
    rw [beq_iff_eq] at e2
    exact e2 ▸ hy
abbrev sHas : Stmt := top 15
def spHas (K : PySem.W.Frag) : Sp := fun vs H Q _ => ∃ (a : Addr) (ys : List Str), vs = [.ref a] ∧ Sq K H a (ys.map V.str) ∧ ys.length < sizeLine ∧ (∀ y ∈ ys, 1 ≤ y.length ∧ y.length + 1 ≤ sizeLine) ∧ ∀ H', Same H H' → Q (.bl (hasS ys)) H'
theorem sc_has : FnScope ["literals", "literal"] ["literals"] (defScope sHas) := ⟨rfl, rfl, rfl, by decide +kernel, rfl, by decide +kernel, by decide +kernel⟩
theorem ok_has {f : Addr} {fd : FuncData} (G : Fun K "has_contraries" "has_contraries" sHas f fd) (B : Pts mg) : FnOk P w K mg base CX0 1 f fd ["literals"] (spHas K) := by
  have sc := sc_has
  refine G.ok sc (fun vs H Q E h => ?_) (fun cdv A outer s H vs Q E hr h => ?_)
  · obtain ⟨v, _, rfl, _⟩ := h
    rfl
  · obtain ⟨a, ys, rfl, hS, few, sz, k⟩ := h
    refine ⟨_, pss_one (ps_ret (pe_callB (cr_any rfl) (by rfl) B.any (by decide +kernel) (pa_cons (pe_lc (own := [("literal", 1)]) (g := gName 1) (te := tOp (rIn K false) _ (tVar 0)) rfl sc.nd (pi_sq (pv 0))
        (blkOk_by (N := ["literals", "literal"]) (sc := defScope sHas) (by decide +kernel)) (fun _ _ _ _ _ => pg_name (i := 1) sc.nd rfl (Or.inl rfl)) (fun _ _ _ _ _ => pts_one (pt_cmpR op_eq (pe_ix ix_str (pv 1) pe_int (fun _ _ => rfl)) pe_str (nomark _)))
        (fun _ _ _ _ _ => pe_cmpR op_in_seq (pe_slice sl_str (pv 1) (po_some pe_int) po_none) (pv 0) (by rfl))) pa_nil))), ?_⟩
    dsimp only [tRet, tCB, tCons, tNil]
    refine seq_lc (fun x => match x with | .str z => if negS z = true then some (.bl (inV (.str (bareS z)) (ys.map V.str))) else none | _ => none) rfl hS (by rw [List.length_map]; exact few) (fun x H2 Ψ Θ hx s2 yes no => ?_) (fun H2 D s2 nD h2 => ?_)
    · obtain ⟨y, hy, rfl⟩ := List.mem_map.mp hx
      obtain ⟨h1, h9⟩ := sz y hy
      obtain ⟨c, hc, hn⟩ := first_cps h1
      walk_at "go"
      refine ⟨y, 0, c, rfl, rfl, by omega, atI_nat (j := 0) hc, rfl, _, rfl, ?_⟩
      have e0 : decide (V.str ⟨#[c]⟩ = V.str dash) = negS y := by rw [one_sign, hn]
      show if decide (V.str ⟨#[c]⟩ = V.str dash) = true then _ else _
      rw [e0]
      by_cases n : negS y = true
      · rw [if_pos n]
        refine ⟨_, rfl, _, rfl, y, rfl, by omega, ?_⟩
        rw [cut_one h1 n]
        refine ⟨_, rfl, a, _, rfl, hS.same s2, rfl, flat_strs ys, ?_⟩
        exact yes _ H2 (if_pos n) (same_refl _)
      · rw [if_neg n]
        exact no H2 (if_neg n) (same_refl _)
    · rw [← con_has] at k
      refine any_done (xs := ys.filter negS) (b := fun y => decide (bareS y ∈ ys)) ?_ (k H2 s2)
      rw [h2, fm_some, List.filterMap_map]
      congr 2
      rw [← filt_fm]
      refine fm_congr fun y _ => ?_
      show (if negS y = true then some (V.bl (inV (.str (bareS y)) (ys.map V.str))) else none) = _
      rw [inV_strs]
/-! ### is_clause -/
abbrev sIsCl : Stmt := top 11
def spIsCl (K : PySem.W.Frag) : Sp := fun vs H Q _ => ∃ v, vs = [v] ∧ ((∃ (a : Addr) (xs : List V), v = .ref a ∧ SqT K H a xs ∧ xs.length < sizeLine ∧ (∀ x ∈ xs, Known K H x) ∧ ∀ H', Same H H' → Q (.bl (clV xs)) H') ∨
  (∃ t, TyX K H v t ∧ PySem.W.kitOne K t (.type "tuple") = some false ∧ Q (.bl false) H))
theorem sc_iscl : FnScope ["value", "last", "literal"] ["value"] (defScope sIsCl) := ⟨rfl, rfl, rfl, by decide +kernel, rfl, by decide +kernel, by decide +kernel⟩
theorem tup_ty {H : Hp} {a : Addr} {xs : List V} (h : SqT K H a xs) : TyX K H (.ref a) (.type "tuple") := by
  rcases h with (h | ⟨o, h⟩) | ⟨o, its, n, h, hc, _⟩
  · exact .base (.tup h)
  · exact .fTuple h
  · exact .kTuple h hc
theorem lst_ty {H : Hp} {a : Addr} {xs : List V} (h : SqL K H a xs) : TyX K H (.ref a) (.type "list") := by
  rcases h with (h | ⟨o, h⟩) | ⟨o, its, n, h, hc, _⟩
  · exact .base (.lst h)
  · exact .base (.frz h)
  · exact .kList h hc
theorem ok_iscl {f fL fC : Addr} {fd fdL fdC : FuncData} (G : Fun K "is_clause" "is_clause" sIsCl f fd) (B : Pts mg) (mL : mg "is_literal" = some (.ref fL)) (kL : PySem.W.keepIn K (.ref fL) = true) (OL : FnOk P w K mg base CX0 2 fL fdL ["value"] (spIsLit K)) (bL : Binds K fdL ["value"] [])
    (mC : mg "has_contraries" = some (.ref fC)) (kC : PySem.W.keepIn K (.ref fC) = true) (OC : FnOk P w K mg base CX0 1 fC fdC ["literals"] (spHas K)) (bC : Binds K fdC ["literals"] []) : FnOk P w K mg base CX0 4 f fd ["value"] (spIsCl K) := by
  have sc := sc_iscl
  refine G.ok sc (fun vs H Q E h => ?_) (fun cdv A outer s H vs Q E hr h => ?_)
  · obtain ⟨v, rfl, _⟩ := h
    rfl
  · obtain ⟨v, rfl, h⟩ := h
    have hr1 : Room 1 _ := hr.mono (by decide)
    have hr2 : Room 2 _ := hr.mono (by decide)
    refine ⟨_, pss_cons (ps_if (pt_not (pt_val (pe_callB call_isi (by rfl) B.isinstance boot_isinstance (pa_cons (pv 0) (pa_cons (pe_bltn (v := .ty "tuple") (by rfl) B.tuple boot_tuple rfl) pa_nil))))) (pss_one (ps_ret pe_bl)) pss_nil)
      (pss_cons (ps_set (i := 1) sc.nd rfl (Or.inl rfl) pe_str)
      (pss_cons (ps_for PassesOwn.never rfl (pi_tup (pv 0)) (pg_name (i := 2) sc.nd rfl (Or.inl rfl))
        (pss_cons (ps_if (PW.pt (pw_or (pt_not (pt_val (pe_call OL hr2 rfl mL kL bL .nil pass0 (pa_cons (pv 2) pa_nil)))) (pw_or1 (pt_cmpR op_le_str (pv 2) (pv 1) (nomark _))))) (pss_one (ps_ret pe_bl)) pss_nil)
        (pss_one (ps_set (i := 1) sc.nd rfl (Or.inl rfl) (pv 2)))))
      (pss_one (ps_ret (pe_not (pe_call OC hr1 rfl mC kC bC .nil pass0 (pa_cons (pv 0) pa_nil))))))), ?_⟩
    rcases h with ⟨a, xs, rfl, hS, few, kn, k⟩ | ⟨t, ty, ki, k⟩
    · walk_at "go"
      refine ⟨.ref a, .ty "tuple", _, _, true, rfl, .ty "tuple", tup_ty hS, kit_ty (by decide +kernel), ?_⟩
      refine ⟨_, rfl, iteF ?_⟩
      refine ⟨_, rfl, a, rfl, ⟨_, hS⟩, ?_⟩
      have fail : ∀ H2, Same H H2 → walkC "" xs = false → Q (.bl false) H2 := fun H2 s2 e => by
        have q := k H2 s2
        rw [clV_walk, e, Bool.false_and] at q
        exact q
      refine for_tup (xs := xs) (fun i σ H2 => Same H H2 ∧ ∃ (last : Str) (o : Option V), σ = [some (.ref a), some (.str last), o] ∧ walkC "" xs = walkC last (xs.drop i)) ⟨same_refl H, "", none, rfl, rfl⟩ (fun i σ H2 hi h => sqT_same hS h.1) ?_ ?_
      · rintro i x σ H2 hx ⟨s2, last, o, rfl, ew⟩
        have hi : i < xs.length := by
          rcases Nat.lt_or_ge i xs.length with h | h
          · exact h
          · rw [List.getElem?_eq_none h] at hx
            cases hx
        have ed : xs.drop i = x :: xs.drop (i + 1) := by
          rw [List.drop_eq_getElem_cons hi]
          congr 1
          rw [List.getElem?_eq_getElem hi] at hx
          exact Option.some.inj hx
        rw [ed] at ew
        have mx : x ∈ xs := List.mem_of_getElem? hx
        refine ⟨_, rfl, _, rfl, (kn x mx).same s2, fun H3 s3 => ?_⟩
        have s13 := same_trans s2 s3
        refine ⟨_, rfl, ?_⟩
        by_cases c : litV x = true
        · rw [c]
          refine iteF ?_
          cases x with
          | str z =>
            refine ⟨_, rfl, _, rfl, z, last, rfl, rfl, _, rfl, ?_⟩
            have ez : walkC last (.str z :: xs.drop (i + 1)) = (litS z && ltS last z && walkC z (xs.drop (i + 1))) := rfl
            rw [ez, show litS z = true from c, Bool.true_and] at ew
            refine ite2 (fun n => ?_) (fun n => ?_)
            · refine fail H3 s13 ?_
              have e2 : ltS last z = false := by
                unfold ltS
                simpa using n
              rw [ew, e2, Bool.false_and]
            · refine ⟨_, rfl, s13, z, _, rfl, ?_⟩
              have e2 : ltS last z = true := by
                unfold ltS
                simpa using n
              rw [ew, e2, Bool.true_and]
          | _ => exact (Bool.false_ne_true c).elim
        · rw [Bool.eq_false_iff.mpr c]
          refine iteT (fail H3 s13 ?_)
          rw [ew]
          exact walkC_cons _ _ _ (Bool.eq_false_iff.mpr c)
      · rintro σ H2 ⟨s2, last, o, rfl, ew⟩
        rw [List.drop_length] at ew
        have et : walkC "" xs = true := ew
        have c : xs.all litV = true := by
          rw [walkC_top, Bool.and_eq_true] at et
          exact et.1
        have e := strs_of_lit c
        have len : (strsV xs).length = xs.length := by
          have e2 := congrArg List.length e
          rw [List.length_map] at e2
          exact e2.symm
        refine ⟨_, rfl, a, strsV xs, rfl, .inr (by rw [← e]; exact sqT_same hS s2), by omega, fun y hy => ?_, fun H3 s3 => ?_⟩
        · have hm : V.str y ∈ xs := by
            rw [e]
            exact List.mem_map.mpr ⟨y, hy, rfl⟩
          have ly : litS y = true := List.all_eq_true.mp c _ hm
          have l9 := lit_short ly
          refine ⟨lit_pos ly, ?_⟩
          rw [sizeLine_eq]
          omega
        · have q := k H3 (same_trans s2 s3)
          rw [clV_walk, et, Bool.true_and] at q
          exact ⟨_, rfl, q⟩
    · walk_at "go"
      refine ⟨v, .ty "tuple", _, _, false, rfl, .ty "tuple", ty, ki, ?_⟩
      exact ⟨_, rfl, iteT k⟩
/-! ### what is asked of clauses -/
def clS (ys : List Str) : Bool := ys.all litS && ascS ys && !hasS ys
theorem strsV_map : ∀ ys : List Str, strsV (ys.map V.str) = ys
  | [] => rfl
  | y :: ys => by
    show y :: strsV (ys.map V.str) = y :: ys
    rw [strsV_map ys]
theorem clV_strs (ys : List Str) : clV (ys.map V.str) = clS ys := by
  unfold clV clS
  rw [strsV_map, List.all_map]
  rfl
/-- a clause at a -/
def ClAt (K : PySem.W.Frag) (H : Hp) (a : Addr) (ys : List Str) : Prop := SqT K H a (ys.map V.str) ∧ clS ys = true ∧ ys.length < 30
theorem ClAt.same {H H' : Hp} {a : Addr} {ys : List Str} (h : ClAt K H a ys) (s : Same H H') : ClAt K H' a ys := ⟨sqT_same h.1 s, h.2⟩
theorem ClAt.lits {H : Hp} {a : Addr} {ys : List Str} (h : ClAt K H a ys) : ys.all litS = true := by
  have e := h.2.1
  unfold clS at e
  rw [Bool.and_eq_true, Bool.and_eq_true] at e
  exact e.1.1
theorem lit_len {ys : List Str} (h : ys.all litS = true) : ∀ y ∈ ys, y.length ≤ 9 := fun y hy => lit_short (List.all_eq_true.mp h y hy)
theorem lit_line {ys : List Str} (h : ys.all litS = true) : ∀ y ∈ ys, y.length + 1 ≤ sizeLine := fun y hy => Nat.le_trans (Nat.add_le_add_right (lit_len h y hy) 1) (by decide)
theorem lit_has {ys : List Str} (h : ys.all litS = true) : ∀ y ∈ ys, 1 ≤ y.length ∧ y.length + 1 ≤ sizeLine := fun y hy => ⟨lit_pos (List.all_eq_true.mp h y hy), lit_line h y hy⟩
theorem lit_line0 {ys : List Str} (h : ys.all litS = true) : ∀ y ∈ ys, y.length ≤ sizeLine := fun y hy => Nat.le_trans (lit_len h y hy) (by decide)
theorem lit_known {H : Hp} {ys : List Str} (h : ys.all litS = true) : ∀ x ∈ ys.map V.str, Known K H x := fun x hx => by
  obtain ⟨y, hy, rfl⟩ := List.mem_map.mp hx
  exact .inl ⟨y, rfl, lit_line0 h y hy⟩
/-- rs are the texts ys in order, each once -/
structure InOrd (rs ys : List Str) : Prop where
  nd : rs.Nodup
  up : sortedS rs = true
  mem : ∀ y, y ∈ rs ↔ y ∈ ys
  le : rs.length ≤ ys.length
/-- a new tuple of ys in order is returned, nothing else is changed -/
def Made (H : Hp) (Q : VK) (ys : List Str) : Prop := ∀ H' p rs, Same H H' → H p = none → H' p = some (.tup (rs.map V.str)) → InOrd rs ys → Q (.ref p) H'
def spNeedL : Sp := fun vs H Q _ => ∃ z, vs = [.str z] ∧ litS z = true ∧ ∀ H', Same H H' → Q .non H'
def spNeedC (K : PySem.W.Frag) : Sp := fun vs H Q _ => ∃ (a : Addr) (ys : List Str), vs = [.ref a] ∧ ClAt K H a ys ∧ ∀ H', Same H H' → Q .non H'
def spNeedCs (K : PySem.W.Frag) : Sp := fun vs H Q _ => ∃ (a b : Addr) (ys zs : List Str), vs = [.ref a, .ref b] ∧ ClAt K H a ys ∧ ClAt K H b zs ∧ ∀ H', Same H H' → Q .non H'
/-! ### of one literal -/
def spOneL (g : Str → Str) : Sp := fun vs H Q _ => ∃ z, vs = [.str z] ∧ litS z = true ∧ ∀ H', Same H H' → Q (.str (g z)) H'
/-! ### clause_of -/
def spClOf (K : PySem.W.Frag) : Sp := fun vs H Q _ => ∃ (a : Addr) (ys : List Str), vs = [.ref a] ∧ SqL K H a (ys.map V.str) ∧ ys.all litS = true ∧ hasS ys = false ∧ ys.length < 60 ∧ Made H Q ys
theorem litV_all (ys : List Str) : (ys.map V.str).all litV = ys.all litS := by
  rw [List.all_map]
  rfl
/-! ### variables_in -/
def spVarsIn (K : PySem.W.Frag) : Sp := fun vs H Q _ => ∃ (a : Addr) (ys : List Str), vs = [.ref a] ∧ ClAt K H a ys ∧
  ∀ H' p (rs : List Str), Same H H' → H p = none → H' p = some (.lst (rs.map V.str)) → rs.Perm (ys.map bareS) → sortedS rs = true → Q (.ref p) H'
/-! ### of two clauses -/
def spWithin (K : PySem.W.Frag) : Sp := fun vs H Q _ => ∃ (a b : Addr) (ys zs : List Str), vs = [.ref a, .ref b] ∧ ClAt K H a ys ∧ ClAt K H b zs ∧ ∀ H', Same H H' → Q (.bl (ys.all fun y => decide (y ∈ zs))) H'
def spCommon (K : PySem.W.Frag) : Sp := fun vs H Q _ => ∃ (a b : Addr) (ys zs : List Str), vs = [.ref a, .ref b] ∧ ClAt K H a ys ∧ ClAt K H b zs ∧
  ∀ H' p, Same H H' → H p = none → H' p = some (.tup ((ys.filter fun y => decide (y ∈ zs)).map V.str)) → Q (.ref p) H'
def spUnited (K : PySem.W.Frag) : Sp := fun vs H Q _ => ∃ (a b : Addr) (ys zs : List Str), vs = [.ref a, .ref b] ∧ ClAt K H a ys ∧ ClAt K H b zs ∧ hasS (ys ++ zs) = false ∧ Made H Q (ys ++ zs)
end
end My
end

section
set_option Elab.async false
set_option linter.all false
set_option maxRecDepth 100000
set_option maxHeartbeats 4000000
namespace My
local macro_rules | `(tactic| walk_at "go") => `(tactic| (repeat (first
  | (refine ⟨_, rfl, ?_⟩)
  | (refine ⟨_, _, rfl, rfl, ?_⟩)
  | (refine ⟨_, _, rfl, ?_⟩)
  | (refine ⟨rfl, ?_⟩)
  | (refine Or.inl ⟨_, rfl, ?_⟩)
  | (refine ⟨_, _, _, _, rfl, rfl, L2.SqL.of (by first | assumption | exact L2.upd_same), rfl, ?_⟩)
  | (refine ⟨_, _, _, _, rfl, rfl, (by first | assumption | exact L2.upd_same), rfl, ?_⟩)
  | (refine And.intro (by first | omega | decide | (unfold L2.CPow; decide) | (unfold L2.CMul; omega) | (unfold L2.CDiv; omega)) ?_))))
open PySem PySem.Spec PyProof.Rows L2 TL MyF MyS RZ
section
variable {P : Program} {w : World} {K : PySem.W.Frag} {mg : Str → Option Value} {base : Heap}
/-! ### meeting, put_together -/
def clashS (ys zs : List Str) : List Str := ys.filter fun y => decide (oppS y ∈ zs)
def meetV (ys zs : List Str) : V := match clashS ys zs with
  | [y] => .str (bareS y)
  | _ => .non
def spMeet (K : PySem.W.Frag) : Sp := fun vs H Q _ => ∃ (a b : Addr) (ys zs : List Str), vs = [.ref a, .ref b] ∧ ClAt K H a ys ∧ ClAt K H b zs ∧ ∀ H', Same H H' → Q (meetV ys zs) H'
def spJoin (K : PySem.W.Frag) : Sp := fun vs H Q _ => ∃ (a b : Addr) (ys zs : List Str) (v : Str), vs = [.ref a, .ref b, .str v] ∧ ClAt K H a ys ∧ ClAt K H b zs ∧ Made H Q ((ys ++ zs).filter fun y => !decide (bareS y = v))
def spPut (K : PySem.W.Frag) : Sp := fun vs H Q _ => ∃ (a b : Addr) (ys zs : List Str) (v : Str), vs = [.ref a, .ref b] ∧ ClAt K H a ys ∧ ClAt K H b zs ∧ meetV ys zs = .str v ∧ Made H Q ((ys ++ zs).filter fun y => !decide (bareS y = v))
/-! ### is_name_list, turned -/
def nlV (xs : List V) : Bool := xs.all varV && ascS (strsV xs)
theorem strs_of_var : ∀ {xs : List V}, xs.all varV = true → xs = (strsV xs).map V.str
  | [], _ => rfl
  | x :: xs, h => by
    rw [List.all_cons, Bool.and_eq_true] at h
    cases x with
    | str z =>
      have e := strs_of_var h.2
      show V.str z :: xs = V.str z :: (strsV xs).map V.str
      rw [← e]
    | _ => exact (Bool.false_ne_true h.1).elim
def spNameL (K : PySem.W.Frag) : Sp := fun vs H Q _ => ∃ v, vs = [v] ∧ ((∃ (a : Addr) (xs : List V), v = .ref a ∧ SqL K H a xs ∧ xs.length < sizeLine ∧ (∀ x ∈ xs, Known K H x) ∧ ∀ H', Same H H' → Q (.bl (nlV xs)) H') ∨
  (∃ t, TyX K H v t ∧ PySem.W.kitOne K t (.type "list") = some false ∧ Q (.bl false) H))
def turnS (ns : List Str) (y : Str) : Str := if bareS y ∈ ns then oppS y else y
def spTurn (K : PySem.W.Frag) : Sp := fun vs H Q _ => ∃ (a b : Addr) (ys ns : List Str), vs = [.ref a, .ref b] ∧ ClAt K H a ys ∧ SqL K H b (ns.map V.str) ∧ ns.all lowZ = true ∧ ascS ns = true ∧ ns.length < 60 ∧ Made H Q (ys.map (turnS ns))
theorem low_known {H : Hp} {ns : List Str} (h : ns.all lowZ = true) : ∀ x ∈ ns.map V.str, Known K H x := fun x hx => by
  obtain ⟨y, hy, rfl⟩ := List.mem_map.mp hx
  have e := List.all_eq_true.mp h y hy
  unfold lowZ at e
  rw [Bool.and_eq_true, Bool.and_eq_true] at e
  exact .inl ⟨y, rfl, Nat.le_trans (of_decide_eq_true e.1.2) (by decide)⟩
theorem nlV_strs {ns : List Str} (h : ns.all lowZ = true) (k : ascS ns = true) : nlV (ns.map V.str) = true := by
  unfold nlV
  rw [strsV_map, k, Bool.and_true, List.all_map]
  exact h
end
end My
end

section
set_option Elab.async false
set_option linter.all false
set_option maxRecDepth 100000
set_option maxHeartbeats 4000000
namespace MyW
open PySem PySem.Spec PyProof.Rows L2
/-- the view of the values of the dict at d -/
def ValO (v d : Addr) : HO := .ext fun h => h.IsValuesView v d
theorem valO_ok {P : Program} {w : World} {H : Hp} {h : Heap} {v d : Addr} (e : h.IsValuesView v d) : ObjOk P w H h v (ValO v d) :=
  ⟨e, let ⟨o, ho, _⟩ := e; ⟨o, ho⟩, fun h1 h2 q k => let ⟨o, ho, r⟩ := q; ⟨o, k o ho, r⟩⟩
def tVals (td : TE) : TE := fun σ H Q => td σ H fun x H1 => ∃ d kvs, x = .ref d ∧ Rd H1 d (.dK kvs) ∧ ∀ v, H1 v = none → Q (.ref v) (upd H1 v (ValO v d))
theorem vals_of_kv : ∀ {kvs : List (Key × V)} {vs : List (Key × Value)}, KV kvs vs → Vals (kvs.map (·.2)) (vs.map (·.2))
  | _, _, .nil => .nil
  | _, _, .cons h t => .cons h.2 (vals_of_kv t)
section
variable {X : Cx} {e : Expr} {td : TE} {apos cpos : Pos}
theorem pe_vals (he : PE X e td) (hbase : attributeBase e "values" X.env (eval e X.env) = eval e X.env := by rfl) (hline : (apos.endLine == cpos.line) = true := by rfl) : PE X (.Call (.Attribute e "values" apos) [] [] cpos) (tVals td) := by
  refine ⟨fun pins s σ H Q I h => ?_⟩
  refine wpAny_Call_method (T := "dict") (id := "dict.values") hbase rfl hline F.plainAttrs_dict F.slot_dict_values F.type_dict_values (thn (he.run pins s σ H _ I h) fun u s1 ⟨x, H1, I1, rx, d, kvs, ex, hd, q⟩ => ?_)
  subst ex
  cases rx
  obtain ⟨z, lo, vs, rel, dd⟩ := dk_rd I1.hok hd
  refine ⟨dd.typeIs, dd.mapOf.noDict, ?_⟩
  have I2 : Inv X pins σ (upd H1 s1.heap.objs.size (ValO s1.heap.objs.size d)) { s1 with heap := s1.heap.push { cls := .type "dict_values", data := .fields #[.ref d] } } :=
    I1.laid (t' := s1.toks) (fun b o e => Heap.get?_push_of_some _ e) (Nat.le_refl _) (valO_ok ⟨_, Heap.get?_push_size _ rfl, rfl, rfl⟩)
  exact method_meetsIn F.slot_dict_values F.entry_dict_values rfl (PySem.evalArgs_none ⟨rfl, dd.typeIs, F.args_dict_values_1 _, _, meets_dict_values (mixKind X.prog X.w) d lo, ⟨vs, dd⟩, ⟨.ref s1.heap.objs.size, _, I2, rfl, q _ (I1.hok.fresh (Nat.le_refl _))⟩⟩)
/-- list(view) -/
def rListVals : List V → Hp → VK → Prop := fun xs H Q => ∃ (v d : Addr) (kvs : List (Key × V)), xs = [.ref v] ∧ H v = some (ValO v d) ∧ Rd H d (.dK kvs) ∧ ∀ p, H p = none → Q (.ref p) (upd H p (.lst (kvs.map (·.2))))
theorem call_listVals (hcalm : X.calm = true) : CallR X (.type "list") rListVals := by
  intro pins s σ H xs us Q I r q
  obtain ⟨v, d, kvs, rfl, hv, hd, q⟩ := q
  rw [Vals.ref1 r]
  obtain ⟨z, lo, vs, rel, dd⟩ := dk_rd I.hok hd
  obtain ⟨ep, hat⟩ := dd.dictAt
  have view : s.heap.IsValuesView v d := (I.hok v _ hv).1
  have lenv := vals_of_kv rel
  refine PySem.W.kdl_call (PySem.W.kdl_values (knd := mixKind X.prog X.w) (kvs := vs) (ep := ep)) (I.ok.hd hcalm) ⟨view, hat⟩ (by rw [← rel.length]; exact z) fun h' tk acc c' hk hD hacc => ?_
  have e : acc.toList = vs.map (·.2) := PySem.W.kdl_vals_eq acc.toList (by rw [Array.length_toList]; exact hacc.1) fun j w e => hacc.2 j w (by rw [← Array.getElem?_toList]; exact e)
  exact ⟨.ref s.heap.objs.size, _, I.laid (t' := tk) hk (Nat.le_refl _) (show ObjOk X.prog X.w _ _ _ (.lst (kvs.map (·.2))) from ⟨by rw [List.length_map]; exact z, acc.toList, c', by rw [e]; exact lenv, by rw [Array.toArray_toList]; exact hD⟩), rfl, q _ (I.hok.fresh (Nat.le_refl _))⟩
end
end MyW
end

section
set_option Elab.async false
set_option linter.all false
set_option maxRecDepth 100000
set_option maxHeartbeats 4000000
namespace My
local macro_rules | `(tactic| walk_at "go") => `(tactic| (repeat (first
  | (refine ⟨_, rfl, ?_⟩)
  | (refine ⟨_, _, rfl, rfl, ?_⟩)
  | (refine ⟨_, _, rfl, ?_⟩)
  | (refine ⟨rfl, ?_⟩)
  | (refine Or.inl ⟨_, rfl, ?_⟩)
  | (refine ⟨_, _, _, _, rfl, rfl, L2.SqL.of (by first | assumption | exact L2.upd_same), rfl, ?_⟩)
  | (refine ⟨_, _, _, _, rfl, rfl, (by first | assumption | exact L2.upd_same), rfl, ?_⟩)
  | (refine And.intro (by first | omega | decide | (unfold L2.CPow; decide) | (unfold L2.CMul; omega) | (unfold L2.CDiv; omega)) ?_))))
open PySem PySem.Spec PyProof.Rows L2 TL MyF MyS MyW RZ
section
variable {P : Program} {w : World} {K : PySem.W.Frag} {mg : Str → Option Value} {base : Heap}
/-! ### sent_literal, is_renaming, renamed -/
/-- a dict of texts to texts -/
def dm (ps : List (Str × Str)) : List (Key × V) := ps.map fun p => (Sum.inr p.1, .str p.2)
def sendS (x z : Str) : Str := if negS z = true then dash ++ x else x
def spSent : Sp := fun vs H Q _ => ∃ (z x : Str) (d : Addr) (ps : List (Str × Str)), vs = [.str z, .ref d] ∧ H d = some (.dK (dm ps)) ∧ z.length ≤ sizeLine ∧ valV (dm ps) (Sum.inr (bareS z)) = some (.str x) ∧ x.length ≤ 8 ∧ Q (.str (sendS x z)) H
def spRen (K : PySem.W.Frag) : Sp := fun vs H Q _ => ∃ (d : Addr) (ps : List (Str × Str)), vs = [.ref d] ∧ H d = some (.dK (dm ps)) ∧ (∀ p ∈ ps, lowZ p.1 = true ∧ lowZ p.2 = true) ∧ (ps.map (·.2)).Nodup ∧ ps.length < 60 ∧ ∀ H', Same H H' → Q (.bl true) H'
def spRenamed (K : PySem.W.Frag) : Sp := fun vs H Q _ => ∃ (a d : Addr) (ys : List Str) (ps : List (Str × Str)) (rn : Str → Str), vs = [.ref a, .ref d] ∧ ClAt K H a ys ∧ H d = some (.dK (dm ps)) ∧ (∀ p ∈ ps, lowZ p.1 = true ∧ lowZ p.2 = true) ∧ (ps.map (·.2)).Nodup ∧ ps.length < 60 ∧
  (∀ y ∈ ys, valV (dm ps) (Sum.inr (bareS y)) = some (.str (rn (bareS y)))) ∧ (∀ y ∈ ys, (rn (bareS y)).length ≤ 8) ∧ Made H Q (ys.map fun y => sendS (rn (bareS y)) y)
end
end My
end

section
set_option Elab.async false
set_option linter.all false
set_option maxRecDepth 100000
set_option maxHeartbeats 4000000
namespace My
local macro_rules | `(tactic| walk_at "go") => `(tactic| (repeat (first
  | (refine ⟨_, rfl, ?_⟩)
  | (refine ⟨_, _, rfl, rfl, ?_⟩)
  | (refine ⟨_, _, rfl, ?_⟩)
  | (refine ⟨rfl, ?_⟩)
  | (refine Or.inl ⟨_, rfl, ?_⟩)
  | (refine ⟨_, _, _, _, rfl, rfl, L2.SqL.of (by first | assumption | exact L2.upd_same), rfl, ?_⟩)
  | (refine ⟨_, _, _, _, rfl, rfl, (by first | assumption | exact L2.upd_same), rfl, ?_⟩)
  | (refine And.intro (by first | omega | decide | (unfold L2.CPow; decide) | (unfold L2.CMul; omega) | (unfold L2.CDiv; omega)) ?_))))
open PySem PySem.Spec PyProof.Rows L2 TL
abbrev sPurse : Stmt := top 40
abbrev sMixed : Stmt := top 41
abbrev sDraw : Stmt := top 42
abbrev sWord : Stmt := top 46
/-- the built-in names that the text leaves as they are -/
structure Bts (mg : Str → Option Value) : Prop where
  sum : mg "sum" = none
  int : mg "int" = none
  max : mg "max" = none
  min : mg "min" = none
  len : mg "len" = none
  range : mg "range" = none
/-- (10 ** 60) ** 8 -/
theorem op_pow8 {X : Cx} : OpR X (binaryOp .Pow) (fun x y H Q => x = .int (10 ^ 60) ∧ y = .int 8 ∧ Q (.int (10 ^ 480)) H) := by
  intro pins s σ H x y v u Q I rx ry h
  obtain ⟨rfl, rfl, q⟩ := h
  obtain ⟨t, rfl⟩ := rx
  obtain ⟨t', rfl⟩ := ry
  refine PySem.AutoIntOps.pow_4 (a := 10 ^ 60) (b := 8) (by decide) (by decide) (by decide +kernel) (by decide +kernel) (by decide +kernel) ?_
  have e : ((10 : Int) ^ 60) ^ (8 : Int).toNat = 10 ^ 480 := by decide +kernel
  rw [e]
  exact ⟨.int _, H, I.tok _, ⟨_, rfl⟩, q⟩
/-- what a purse holds: what is left of the great number, the seed, how often it was asked (at most n times), the place -/
def PurseL (n : Int) (l : List V) : Prop := ∃ a b c d : Int, l = [.int a, .int b, .int c, .int d] ∧ 0 ≤ a ∧ 0 ≤ b ∧ b < 2147483629 ∧ 0 ≤ c ∧ c ≤ n ∧ 0 ≤ d ∧ d ≤ 63
theorem PurseL.mono {n m : Int} {l : List V} (h : PurseL n l) (k : n ≤ m) : PurseL m l := by
  obtain ⟨a, b, c, d, e, h1, h2, h3, h4, h5, h6⟩ := h
  exact ⟨a, b, c, d, e, h1, h2, h3, h4, Int.le_trans h5 k, h6⟩
theorem sum_ones : ∀ {ys : List Str}, (∀ y ∈ ys, y.length = 1) → (ys.map (·.length)).sum = ys.length
  | [], _ => rfl
  | y :: ys, h => by
    rw [List.map_cons, List.sum_cons, h y (List.mem_cons_self ..), sum_ones fun z hz => h z (List.mem_cons_of_mem _ hz), List.length_cons]
    omega
def spPurse (K : PySem.W.Frag) : Sp := fun vs H Q _ => ∃ (a : Addr) (ns : List Int) (i : Int), vs = [.ref a, .int i] ∧ SqL K H a (ns.map V.int) ∧ 0 ≤ i ∧ i ≤ 63 ∧
  ∀ (p q : Addr) (o : HO) (l : List V), H q = none → upd H q o p = none → PurseL 0 l → Q (.ref p) (upd (upd H q o) p (.lst l))
def spMixed : Sp := fun vs H Q _ => ∃ s i t : Int, vs = [.int s, .int i, .int t] ∧ 0 ≤ s ∧ s < 2147483629 ∧ 0 ≤ i ∧ i ≤ 1048576 ∧ 0 ≤ t ∧ t ≤ 63 ∧
  ∀ r : Int, 0 ≤ r → r < 2147483587 → Q (.int r) H
def spDraw : Sp := fun vs H Q _ => ∃ (p : Addr) (m n : Int) (l : List V), vs = [.ref p, .int m] ∧ H p = some (.lst l) ∧ PurseL n l ∧ n ≤ 1000000 ∧ 0 < m ∧ m ≤ 1000 ∧
  ∀ (l' : List V) (r : Int), PurseL (n + 1) l' → 0 ≤ r → r < m → Q (.int r) (upd H p (.lst l'))
theorem bits_le {m : Int} (h0 : 0 < m) (h : m ≤ 1000) : ((Builtin.Int.intBits m : Nat) : Int) < 28 := by
  have : Builtin.Int.intBits m ≤ 10 := by
    unfold Builtin.Int.intBits
    have hm : m.natAbs < 2 ^ 10 := by omega
    split <;> first | omega | (have := (Nat.log2_lt (by omega)).mpr hm; omega)
  omega
section
variable {P : Program} {w : World} {K : PySem.W.Frag} {mg : Str → Option Value} {base : Heap}
theorem scPu : FnScope ["_law_script", "_law_at", "_law_seed"] ["_law_script", "_law_at"] (defScope sPurse) := ⟨rfl, rfl, rfl, by decide +kernel, rfl, by decide +kernel, by decide +kernel⟩
theorem ok_purse {f : Addr} {fd : FuncData} (G : Fun K "_law_purse" "_law_purse" sPurse f fd) (B : Bts mg) : FnOk P w K mg base CX0 1 f fd ["_law_script", "_law_at"] (spPurse K) := by
  refine G.ok scPu (fun vs H Q E h => ?_) (fun cdv A outer s H vs Q E hr h => ?_)
  · obtain ⟨a, ns, i, rfl, _⟩ := h
    rfl
  · obtain ⟨a, ns, i, rfl, hS, h0, h1, k⟩ := h
    refine ⟨_, pss_cons (ps_set (i := 2) scPu.nd rfl (Or.inl rfl) (pe_callB (cr_sum rfl) rfl B.sum boot_sum (pa_cons (pe_slice sl_list (pv 0) (po_some (pv 1)) (po_some (pe_op op_add (pv 1) pe_int))) pa_nil)))
      (pss_one (ps_ret (pe_lst (pa_cons (pe_op op_mod (pe_callTy call_int1 rfl B.int boot_int (pa_cons (pe_callB (call_max2 rfl) rfl B.max boot_max (pa_cons (pe_op op_sub (pv 2) (pe_op op_pow pe_int pe_int)) (pa_cons pe_int pa_nil))) pa_nil)) (pe_op op_pow8 (pe_op op_pow pe_int pe_int) pe_int))
        (pa_cons (pe_op op_mod (pe_callTy call_int1 rfl B.int boot_int (pa_cons (pv 2) pa_nil)) pe_int) (pa_cons pe_int (pa_cons (pv 1) pa_nil))))))), ?_⟩
    walk_at "go"
    refine ⟨a, _, rfl, hS, fun q nq => ?_⟩
    obtain ⟨ms, hms⟩ : ∃ ms : List Int, cutV (ns.map V.int) (some i) (some (i + 1)) = ms.map V.int := ⟨_, (by unfold cutV; rw [← List.map_drop, ← List.map_take])⟩
    rw [hms]

    refine ⟨q, ms, rfl, SqL.of upd_same, ?_⟩
    walk_at "go"
    refine ⟨(show (4 : Nat) ≤ sizeLine by decide), fun p np => k p q _ _ nq np ⟨_, _, _, _, rfl, Int.emod_nonneg _ (by decide), Int.emod_nonneg _ (by decide), Int.emod_lt_of_pos _ (by decide), Int.le_refl _, Int.le_refl _, h0, h1⟩⟩
theorem scMi : FnScope ["_law_seed", "_law_spin", "_law_at", "_law_mixed_here"] ["_law_seed", "_law_spin", "_law_at"] (defScope sMixed) := ⟨rfl, rfl, rfl, by decide +kernel, rfl, by decide +kernel, by decide +kernel⟩
theorem ok_mixed {f : Addr} {fd : FuncData} (G : Fun K "_law_mixed" "_law_mixed" sMixed f fd) (B : Bts mg) : FnOk P w K mg base CX0 1 f fd ["_law_seed", "_law_spin", "_law_at"] spMixed := by
  refine G.ok scMi (fun vs H Q E h => ?_) (fun cdv A outer s H vs Q E hr h => ?_)
  · obtain ⟨s, i, t, rfl, _⟩ := h
    rfl
  · obtain ⟨s, i, t, rfl, h1, h2, h3, h4, h5, h6, k⟩ := h
    refine ⟨_, pss_cons (ps_set (i := 3) scMi.nd rfl (Or.inl rfl) (pe_op op_add (pe_op op_mul (pv 0) pe_int) (pe_op op_mul (pe_op op_mul pe_int (pv 1)) (pv 1))))
      (pss_cons (ps_set (i := 3) scMi.nd rfl (Or.inl rfl) (pe_op op_mod (pe_callTy call_int1 rfl B.int boot_int (pa_cons (pe_op op_add (pe_op op_add (pv 3) (pe_op op_mul pe_int (pv 2))) (pv 1)) pa_nil)) pe_int))
      (pss_cons (ps_set (i := 3) scMi.nd rfl (Or.inl rfl) (pe_op op_mod (pe_callTy call_int1 rfl B.int boot_int (pa_cons (pe_op op_add (pe_op op_mul (pv 3) (pv 3)) pe_int) pa_nil)) pe_int))
      (pss_one (ps_ret (pe_op op_mod (pe_callTy call_int1 rfl B.int boot_int (pa_cons (pe_op op_mul (pv 3) pe_int) pa_nil)) pe_int))))), ?_⟩
    walk_at "go"
    exact k _ (Int.emod_nonneg _ (by decide)) (Int.emod_lt_of_pos _ (by decide))
theorem scDr : FnScope ["_law_purse_here", "_law_many", "_law_drawn_here", "_law_found", "_law_piece"] ["_law_purse_here", "_law_many"] (defScope sDraw) := ⟨rfl, rfl, rfl, by decide +kernel, rfl, by decide +kernel, by decide +kernel⟩
theorem ok_draw {f fM : Addr} {fd fdM : FuncData} (G : Fun K "_law_draw" "_law_draw" sDraw f fd) (B : Bts mg) (mM : mg "_law_mixed" = some (.ref fM)) (GM : Fun K "_law_mixed" "_law_mixed" sMixed fM fdM) (bM : Binds K fdM ["_law_seed", "_law_spin", "_law_at"] []) :
    FnOk P w K mg base CX0 2 f fd ["_law_purse_here", "_law_many"] spDraw := by
  have OM : FnOk P w K mg base CX0 1 fM fdM ["_law_seed", "_law_spin", "_law_at"] spMixed := ok_mixed GM B
  refine G.ok scDr (fun vs H Q E h => ?_) (fun cdv A outer s H vs Q E hr h => ?_)
  · obtain ⟨p, m, n, l, rfl, _⟩ := h
    rfl
  · obtain ⟨p, m, n, l, rfl, hp, ⟨a, b, c, d, rfl, ha, hb, hb2, hc, hcn, hd, hd2⟩, hn, hm, hm2, k⟩ := h
    refine ⟨_, pss_cons (ps_if (pt_cmpR op_gt (pe_ix ix_list (pv 0) pe_int (fun _ _ => rfl)) pe_int (nomark _))
        (pss_cons (ps_set (i := 2) scDr.nd rfl (Or.inl rfl) (pe_op op_mod (pe_callTy call_int1 rfl B.int boot_int (pa_cons (pe_ix ix_list (pv 0) pe_int (fun _ _ => rfl)) pa_nil)) (pv 1)))
        (pss_cons (ps_asg (pe_op op_fdiv (pe_ix ix_list (pv 0) pe_int (fun _ _ => rfl)) (pv 1)) (pg_sub (pv 0) pe_int set_list))
        (pss_one (ps_ret (pv 2))))) pss_nil)
      (pss_cons (ps_set (i := 3) scDr.nd rfl (Or.inl rfl) pe_int)
      (pss_cons (ps_for PassesOwn.never rfl (pi_range1 rfl B.range (pa_cons (pe_op op_add pe_int (pe_op op_fdiv (pe_bits (pv 1)) pe_int)) pa_nil)) (pg_name (i := 4) scDr.nd rfl (Or.inl rfl))
        (pss_cons (ps_asg (pe_op op_add (pe_ix ix_list (pv 0) pe_int (fun _ _ => rfl)) pe_int) (pg_sub (pv 0) pe_int set_list))
        (pss_one (ps_set (i := 3) scDr.nd rfl (Or.inl rfl) (pe_op op_add (pe_op op_mul (pv 3) pe_int) (pe_call OM hr rfl mM GM.kp bM .nil pass0 (pa_cons (pe_ix ix_list (pv 0) pe_int (fun _ _ => rfl)) (pa_cons (pe_ix ix_list (pv 0) pe_int (fun _ _ => rfl)) (pa_cons (pe_ix ix_list (pv 0) pe_int (fun _ _ => rfl)) pa_nil)))))))))
      (pss_one (ps_ret (pe_op op_mod (pe_callTy call_int1 rfl B.int boot_int (pa_cons (pv 3) pa_nil)) (pv 1)))))), ?_⟩
    walk_at "go"
    have hbits := bits_le hm hm2
    have hbit0 : (0 : Int) ≤ ((Builtin.Int.intBits m : Nat) : Int) := Int.natCast_nonneg _
    refine ite2 (fun c0 => ?_) (fun c0 => ?_)
    · walk_at "go"
      exact k _ _ ⟨_, _, _, _, rfl, Int.ediv_nonneg ha (Int.le_of_lt hm), hb, hb2, hc, by omega, hd, hd2⟩ (Int.emod_nonneg _ (by omega)) (Int.emod_lt_of_pos _ hm)
    · walk_at "go"
      have e1 : (1 + ((Builtin.Int.intBits m : Nat) : Int) / 28).toNat = 1 := by omega
      refine for_range (lo := 0) (n := (1 + ((Builtin.Int.intBits m : Nat) : Int) / 28).toNat) (fun i σ H2 => (i = 0 ∧ σ = [some (.ref p), some (.int m), none, some (.int 0), none] ∧ H2 = H) ∨
        (0 < i ∧ ∃ (f : Int) (v : Option V) (l' : List V), σ = [some (.ref p), some (.int m), none, some (.int f), v] ∧ H2 = upd H p (.lst l') ∧ PurseL (n + 1) l')) (.inl ⟨rfl, rfl, rfl⟩) ?_ ?_
      · rintro i σ H2 hi (⟨rfl, rfl, rfl⟩ | ⟨h0, _⟩)
        · walk_at "go"
          refine ⟨b, c + 1, d, rfl, hb, hb2, by omega, by omega, hd, hd2, fun r r0 r1 => ?_⟩
          walk_at "go"
          exact .inr ⟨by omega, _, _, _, rfl, rfl, _, _, _, _, rfl, ha, hb, hb2, by omega, by omega, hd, hd2⟩
        · omega
      · rintro σ H2 (⟨h0, _⟩ | ⟨h0, f, v, l', rfl, rfl, hl⟩)
        · omega
        · walk_at "go"
          exact k _ _ hl (Int.emod_nonneg _ (by omega)) (Int.emod_lt_of_pos _ hm)

def PursesAt (H H' : Hp) (as : List Addr) : Prop := as.Nodup ∧ (∀ a ∈ as, H a = none) ∧ ∀ a ∈ as, ∃ l, H' a = some (.lst l) ∧ PurseL 0 l
def spPurses (K : PySem.W.Frag) : Sp := fun vs H Q _ => ∃ (a : Addr) (ns : List Int) (m : Int), vs = [.ref a, .int m] ∧ SqL K H a (ns.map V.int) ∧ 0 ≤ m ∧ m ≤ 63 ∧ ns.length ≤ 63 ∧
  ∀ (H' : Hp) (p : Addr) (as : List Addr), Same H H' → H p = none → H' p = some (.lst (as.map V.ref)) → PursesAt H H' as → (p ∉ as) → as.length = (if m > 1 ∧ (ns.length : Int) > 1 then (if (ns.length : Int) < m then ns.length else m.toNat) else 1) → Q (.ref p) H'
theorem sql_upd {H : Hp} {p q : Addr} {o : HO} {xs : List V} (h : SqL K H q xs) (n : q ≠ p) : SqL K (upd H p o) q xs := by
  rcases h with (h | ⟨o', h⟩) | h
  · exact .inl (.inl (by rw [upd_ne n]; exact h))
  · exact .inl (.inr ⟨o', by rw [upd_ne n]; exact h⟩)
  · exact .inr h
def letters : Str := "abcdefghijklmnopqrstuvwxyz"
/-- one to eight letters from a to z -/
def Low (x : Str) : Prop := x.length ≤ 8 ∧ 1 ≤ x.length ∧ ∀ c ∈ tl x, 97 ≤ c ∧ c ≤ 122
theorem letters_low : ∀ c ∈ (Str.cps "abcdefghijklmnopqrstuvwxyz").toList, 97 ≤ c ∧ c ≤ 122 := by decide +kernel
theorem joinL_mem {Pc : Nat → Prop} : ∀ {l : List (List Nat)}, (∀ p ∈ l, ∀ c ∈ p, Pc c) → ∀ c ∈ joinL [] l, Pc c
  | [], _, c, hc => by
    have : c ∈ ([] : List Nat) := hc
    simp at this
  | [p], h, c, hc => h p (List.mem_cons_self ..) c hc
  | p :: q :: r, h, c, hc => by
    have hc' : c ∈ p ++ ([] ++ joinL [] (q :: r)) := hc
    rcases List.mem_append.mp hc' with z | z
    · exact h p (List.mem_cons_self ..) c z
    · exact joinL_mem (fun x hx => h x (List.mem_cons_of_mem _ hx)) c z
theorem join_low {ys : List Str} (h : ∀ y ∈ ys, ∀ c ∈ tl y, 97 ≤ c ∧ c ≤ 122) : ∀ c ∈ tl (Txt.join (Str.ofString "") ys), 97 ≤ c ∧ c ≤ 122 := by
  rw [join_eq, tl_join]
  refine joinL_mem fun p hp => ?_
  obtain ⟨y, hy, rfl⟩ := List.mem_map.mp hp
  exact h y hy
def spWord : Sp := fun vs H Q _ => ∃ (p : Addr) (n : Int) (l : List V), vs = [.ref p] ∧ H p = some (.lst l) ∧ PurseL n l ∧ n ≤ 999000 ∧
  ∀ (H' : Hp) (l' : List V) (x : Str), (∀ b o, H b = some o → b ≠ p → H' b = some o) → H' p = some (.lst l') → PurseL (n + 10) l' → Low x → Q (.str x) H'
theorem scWo : FnScope ["_law_purse_here", "_law_size", "_law_spin"] ["_law_purse_here"] (defScope sWord) := ⟨rfl, rfl, rfl, by decide +kernel, rfl, by decide +kernel, by decide +kernel⟩
theorem ok_word {f fD : Addr} {fd fdD : FuncData} (G : Fun K "_law_word" "_law_word" sWord f fd) (B : Bts mg) (mD : mg "_law_draw" = some (.ref fD)) (kD : PySem.W.keepIn K (.ref fD) = true)
    (OD : FnOk P w K mg base CX0 2 fD fdD ["_law_purse_here", "_law_many"] spDraw) (bD : Binds K fdD ["_law_purse_here", "_law_many"] []) :
    FnOk P w K mg base CX0 4 f fd ["_law_purse_here"] spWord := by
  refine G.ok scWo (fun vs H Q E h => ?_) (fun cdv A outer s H vs Q E hr h => ?_)
  · obtain ⟨p, n, l, rfl, _⟩ := h
    rfl
  · obtain ⟨p, n, l, rfl, hp, hl, hn, k⟩ := h
    have hr1 : Room 2 _ := hr.mono (by decide)
    refine ⟨_, pss_cons (ps_set (i := 1) scWo.nd rfl (Or.inl rfl) (pe_op op_add pe_int (pe_call OD hr1 rfl mD kD bD .nil pass0 (pa_cons (pv 0) (pa_cons
        (pe_ifExp (pt_cmpR op_eq (pe_call OD hr1 rfl mD kD bD .nil pass0 (pa_cons (pv 0) (pa_cons pe_int pa_nil))) pe_int (nomark _)) pe_int pe_int) pa_nil)))))
      (pss_one (ps_ret (pe_join pe_str (pe_lc (own := [("_law_spin", 2)]) (g := gName 2) (tt := tYes) rfl scWo.nd (pi_range1 rfl B.range (pa_cons (pv 1) pa_nil))
        (blkOk_by (N := ["_law_purse_here", "_law_size", "_law_spin"]) (sc := defScope sWord) (by decide +kernel)) (fun _ _ _ _ _ => pg_name (i := 2) scWo.nd rfl (Or.inl rfl)) (fun _ _ _ _ _ => pts_nil)
        (fun _ _ _ _ _ => pe_ix ix_str pe_str (pe_call OD hr1 rfl mD kD bD .nil pass0 (pa_cons (pv 0) (pa_cons pe_int pa_nil))) (fun _ _ => rfl)))))), ?_⟩
    walk_at "go"
    refine ⟨p, 3, n, l, rfl, hp, hl, by omega, by decide, by decide, fun l1 r1 hl1 r10 r11 => ?_⟩
    walk_at "go"
    refine ite2 (fun c => ?_) (fun c => ?_)
    all_goals (
      walk_at "go"
      refine ⟨p, _, n + 1, l1, rfl, upd_same, hl1, by omega, by decide, by decide, fun l2 r2 hl2 r20 r21 => ?_⟩
      have r28 : r2 < 8 := by omega
      rw [upd_upd]
      walk_at "go"
      refine ⟨⟨_, rfl⟩, ?_⟩
      walk_at "go"
      refine fun D nD => ?_
      have nDp : D ≠ p := by
        intro z
        rw [z, upd_same] at nD
        cases nD
      have nDH : H D = none := by
        rw [upd_ne nDp] at nD
        exact nD
      refine lc_range (lo := 0) (n := (1 + r2).toNat) (fun i H2 => ∃ (l' : List V) (ys : List Str), ys.length = i ∧ (∀ b o, H b = some o → b ≠ p → H2 b = some o) ∧ H2 p = some (.lst l') ∧ PurseL (n + 2 + (i : Int)) l' ∧
        H2 D = some (.lst (ys.map V.str)) ∧ ∀ y ∈ ys, y.length = 1 ∧ ∀ c ∈ tl y, 97 ≤ c ∧ c ≤ 122) ?_ ?_ ?_
      · exact ⟨l2, [], rfl, fun b o e hb => by rw [upd_ne (ne_of_none e nDH), upd_ne hb]; exact e, by rw [upd_ne nDp.symm]; exact upd_same, by
          have e : n + 2 + ((0 : Nat) : Int) = n + 1 + 1 := by omega
          rw [e]
          exact hl2, upd_same, by simp⟩
      · rintro i H2 hi ⟨l', ys, hlen, sm, hp2, hl', hD, hys⟩
        walk_at "go"
        refine ⟨p, 26, n + 2 + (i : Int), l', rfl, hp2, hl', by omega, by decide, by decide, fun l3 r3 hl3 r30 r31 => ?_⟩
        obtain ⟨j, rfl⟩ : ∃ j : Nat, r3 = (j : Int) := ⟨r3.toNat, by omega⟩
        have h26 : j < 26 := by omega
        refine ⟨_, (j : Int), (Str.cps "abcdefghijklmnopqrstuvwxyz").toList[j]'(Nat.lt_of_lt_of_eq h26 (by decide +kernel)), rfl, rfl, (by decide), ?_, ?_⟩
        · exact atI_nat (List.getElem?_eq_getElem _)
        · refine ⟨ys.map V.str, by rw [upd_ne nDp]; exact hD, by rw [List.length_map, hlen]; exact small1000 (by omega), l3, ys ++ [_], by rw [List.length_append, hlen]; rfl, ?_, by rw [upd_ne nDp.symm]; exact upd_same, ?_, by rw [upd_same, List.map_append]; rfl, ?_⟩
          · intro b o e hb
            rw [upd_ne (ne_of_none e nDH), upd_ne hb]
            exact sm b o e hb
          · have e : n + 2 + ((i + 1 : Nat) : Int) = n + 2 + (i : Int) + 1 := by omega
            rw [e]
            exact hl3
          · intro y hy
            rcases List.mem_append.mp hy with hy | hy
            · exact hys y hy
            · rw [List.mem_singleton] at hy
              rw [hy]
              refine ⟨rfl, fun c hc => ?_⟩
              have hc' : c ∈ [(Str.cps "abcdefghijklmnopqrstuvwxyz").toList[j]'(Nat.lt_of_lt_of_eq h26 (by decide +kernel))] := hc
              rw [List.mem_singleton] at hc'
              rw [hc']
              exact letters_low _ (List.getElem_mem _)
      · rintro H2 ⟨l', ys, hlen, sm, hp2, hl', hD, hys⟩
        have e1 : (Txt.join (Str.ofString "") ys).length = ys.length := PySem.W.KT.join_ones ys fun y hy => (hys y hy).1
        refine ⟨_, D, ys, rfl, rfl, .inl (SqL.of hD), ?_, ?_⟩
        · have e2 : (ys.map (·.length)).sum = ys.length := sum_ones fun y hy => (hys y hy).1
          have e3 : (Str.ofString "").length = 0 := rfl
          rw [e2, e3]
          omega
        · exact k H2 l' _ sm hp2 (hl'.mono (by omega)) ⟨by rw [e1]; omega, by rw [e1]; omega, join_low fun y hy => (hys y hy).2⟩)
end
end My
end

section
set_option Elab.async false
set_option linter.all false
set_option maxRecDepth 100000
set_option maxHeartbeats 4000000
namespace My
local macro_rules | `(tactic| walk_at "go") => `(tactic| (repeat (first
  | (refine ⟨_, rfl, ?_⟩)
  | (refine ⟨_, _, rfl, rfl, ?_⟩)
  | (refine ⟨_, _, rfl, ?_⟩)
  | (refine ⟨rfl, ?_⟩)
  | (refine Or.inl ⟨_, rfl, ?_⟩)
  | (refine ⟨_, _, _, _, rfl, rfl, L2.SqL.of (by first | assumption | exact L2.upd_same), rfl, ?_⟩)
  | (refine ⟨_, _, _, _, rfl, rfl, (by first | assumption | exact L2.upd_same), rfl, ?_⟩)
  | (refine And.intro (by first | omega | decide | (unfold L2.CPow; decide) | (unfold L2.CMul; omega) | (unfold L2.CDiv; omega)) ?_))))
open PySem PySem.Spec PyProof.Rows L2 TL MyF MyS MyW RZ
/-! ### texts by their first sign -/
section
variable {P : Program} {w : World} {K : PySem.W.Frag} {mg : Str → Option Value} {base : Heap}
/-! ### _law_contrary, _law_bare -/
abbrev sLCon : Stmt := top 48
def spLOne (g : Str → Str) : Sp := fun vs H Q _ => ∃ z, vs = [.str z] ∧ 1 ≤ z.length ∧ z.length ≤ 9 ∧ Q (.str (g z)) H
theorem sc_lcon : FnScope ["_law_literal"] ["_law_literal"] (defScope sLCon) := ⟨rfl, rfl, rfl, by decide +kernel, rfl, by decide +kernel, by decide +kernel⟩
theorem ok_lcon {f : Addr} {fd : FuncData} (G : Fun K "_law_contrary" "_law_contrary" sLCon f fd) : FnOk P w K mg base CX0 1 f fd ["_law_literal"] (spLOne oppS) := by
  have sc := sc_lcon
  refine G.ok sc (fun vs H Q E h => ?_) (fun cdv A outer s H vs Q E hr h => ?_)
  · obtain ⟨_, rfl, _⟩ := h
    rfl
  · obtain ⟨z, rfl, h1, h9, k⟩ := h
    have big : (1000 : Nat) < sizeLine := by decide
    obtain ⟨c, hc, hn⟩ := first_cps h1
    refine ⟨_, pss_one (ps_ret (pe_ifExp (pt_cmpR op_eq (pe_ix ix_str (pv 0) pe_int (fun _ _ => rfl)) pe_str (nomark _)) (pe_slice sl_str (pv 0) (po_some pe_int) po_none) (pe_op op_add_str pe_str (pv 0)))), ?_⟩
    refine ⟨_, rfl, z, 0, c, rfl, rfl, by omega, atI_nat (j := 0) hc, rfl, _, rfl, ?_⟩
    have e0 : decide (V.str ⟨#[c]⟩ = V.str dash) = negS z := by rw [one_sign, hn]
    show if decide (V.str ⟨#[c]⟩ = V.str dash) = true then _ else _
    rw [e0]
    refine ite2 (fun n => ?_) (fun n => ?_)
    · refine ⟨_, rfl, _, rfl, z, rfl, by omega, ?_⟩
      rw [cut_one h1 n]
      have e : oppS z = bareS z := if_pos n
      rw [e] at k
      exact k
    · have e : oppS z = dash ++ z := if_neg n
      rw [e] at k
      refine ⟨_, rfl, dash, z, rfl, rfl, ?_, k⟩
      show 1 + z.length ≤ sizeLine
      omega
abbrev sLBare : Stmt := top 49
theorem sc_lbare : FnScope ["_law_literal"] ["_law_literal"] (defScope sLBare) := ⟨rfl, rfl, rfl, by decide +kernel, rfl, by decide +kernel, by decide +kernel⟩
theorem ok_lbare {f : Addr} {fd : FuncData} (G : Fun K "_law_bare" "_law_bare" sLBare f fd) : FnOk P w K mg base CX0 1 f fd ["_law_literal"] (spLOne bareS) := by
  have sc := sc_lbare
  refine G.ok sc (fun vs H Q E h => ?_) (fun cdv A outer s H vs Q E hr h => ?_)
  · obtain ⟨_, rfl, _⟩ := h
    rfl
  · obtain ⟨z, rfl, h1, h9, k⟩ := h
    have big : (1000 : Nat) < sizeLine := by decide
    obtain ⟨c, hc, hn⟩ := first_cps h1
    refine ⟨_, pss_one (ps_ret (pe_ifExp (pt_cmpR op_eq (pe_ix ix_str (pv 0) pe_int (fun _ _ => rfl)) pe_str (nomark _)) (pe_slice sl_str (pv 0) (po_some pe_int) po_none) (pv 0))), ?_⟩
    refine ⟨_, rfl, z, 0, c, rfl, rfl, by omega, atI_nat (j := 0) hc, rfl, _, rfl, ?_⟩
    have e0 : decide (V.str ⟨#[c]⟩ = V.str dash) = negS z := by rw [one_sign, hn]
    show if decide (V.str ⟨#[c]⟩ = V.str dash) = true then _ else _
    rw [e0]
    refine ite2 (fun n => ?_) (fun n => ?_)
    · refine ⟨_, rfl, _, rfl, z, rfl, by omega, ?_⟩
      rw [cut_one h1 n]
      exact k
    · rw [bare_of_pos n] at k
      exact ⟨_, rfl, k⟩
end
end My
end

section
set_option Elab.async false
set_option linter.all false
set_option maxRecDepth 100000
set_option maxHeartbeats 4000000
namespace My
local macro_rules | `(tactic| walk_at "go") => `(tactic| (repeat (first
  | (refine ⟨_, rfl, ?_⟩)
  | (refine ⟨_, _, rfl, rfl, ?_⟩)
  | (refine ⟨_, _, rfl, ?_⟩)
  | (refine ⟨rfl, ?_⟩)
  | (refine Or.inl ⟨_, rfl, ?_⟩)
  | (refine ⟨_, _, _, _, rfl, rfl, L2.SqL.of (by first | assumption | exact L2.upd_same), rfl, ?_⟩)
  | (refine ⟨_, _, _, _, rfl, rfl, (by first | assumption | exact L2.upd_same), rfl, ?_⟩)
  | (refine And.intro (by first | omega | decide | (unfold L2.CPow; decide) | (unfold L2.CMul; omega) | (unfold L2.CDiv; omega)) ?_))))
open PySem PySem.Spec PyProof.Rows L2 TL MyF MyS MyW RZ
section
variable {P : Program} {w : World} {K : PySem.W.Frag} {mg : Str → Option Value} {base : Heap}
/-! ### _law_clause -/
theorem paired_snoc {α β : Type} {F : α → β → Prop} : ∀ {as : List α} {bs : List β} {a : α} {b : β}, Paired F as bs → F a b → Paired F (as ++ [a]) (bs ++ [b])
  | _, _, _, _, .nil, h => .cons h .nil
  | _, _, _, _, .cons r t, h => .cons r (paired_snoc t h)
def mk (ys : List Str) : List (Key × V) := ys.map fun y => (Sum.inr y, .bl true)
def fPair : V → List V := fun x => [x, .bl true]
theorem pairs_of {H : Hp} {ts : List Addr} {xs : List V} (h : Tups H fPair ts xs) : ∀ ys : List Str, xs = ys.map V.str → Paired (fun p (kv : Key × V) => SqT K H p [L2.kV kv.1, kv.2]) ts (mk ys) := by
  induction h with
  | nil =>
    intro ys e
    cases ys with
    | nil => exact .nil
    | cons y ys => cases e
  | @snoc ts xs t x r e ih =>
    intro ys e2
    obtain ⟨zs, z, rfl⟩ : ∃ zs z, ys = zs ++ [z] := by
      rcases List.eq_nil_or_concat ys with rfl | ⟨zs, z, rfl⟩
      · have := congrArg List.length e2
        rw [List.length_append, List.map_nil, List.length_nil, List.length_singleton] at this
        omega
      · exact ⟨zs, z, by rw [List.concat_eq_append]⟩
    rw [List.map_append] at e2
    obtain ⟨e3, e4⟩ := List.append_inj' e2 rfl
    have e5 : x = V.str z := by
      injection e4
    have q := paired_snoc (ih zs e3) (show (fun p (kv : Key × V) => SqT K H p [L2.kV kv.1, kv.2]) t (Sum.inr z, .bl true) from SqT.of (by rw [e]; show some (HO.tup [x, .bl true]) = _; rw [e5]; rfl))
    unfold mk
    rw [List.map_append]
    exact q
theorem put_keys (acc : List (Key × V)) (ks : List Str) (y : Str) (v : V) (h : acc.map (·.1) = ks.map Sum.inr) : (putK acc (Sum.inr y) v).map (·.1) = (if y ∈ ks then ks else ks ++ [y]).map Sum.inr := by
  have any : (acc.any fun kv => decide (kv.1 = Sum.inr y)) = decide (y ∈ ks) := by
    have e : (acc.any fun kv => decide (kv.1 = Sum.inr y)) = (acc.map (·.1)).any fun k => decide (k = Sum.inr y) := by rw [List.any_map]; rfl
    rw [e, h, List.any_map]
    by_cases c : y ∈ ks
    · rw [decide_eq_true c]
      exact List.any_eq_true.mpr ⟨y, c, decide_eq_true rfl⟩
    · rw [decide_eq_false c]
      refine List.any_eq_false.mpr fun z hz e2 => c ?_
      have e3 := of_decide_eq_true e2
      injection e3 with e4
      exact e4 ▸ hz
  unfold putK
  rw [any]
  by_cases c : y ∈ ks
  · rw [if_pos (decide_eq_true c), if_pos c, List.map_map, ← h]
    refine List.map_congr_left fun kv _ => ?_
    show (if kv.1 = Sum.inr y then (kv.1, v) else kv).1 = kv.1
    split <;> rfl
  · rw [if_neg (by rw [decide_eq_false c]; exact Bool.false_ne_true), if_neg c, List.map_append, h, List.map_append]
    rfl
theorem merge_keys : ∀ (ys : List Str) (acc : List (Key × V)) (ks : List Str), acc.map (·.1) = ks.map Sum.inr → ks.Nodup → ∃ ks' : List Str, (mergeK acc (mk ys)).map (·.1) = ks'.map Sum.inr ∧ ks'.Nodup ∧ (∀ y, y ∈ ks' ↔ y ∈ ks ∨ y ∈ ys) ∧ ks'.length ≤ ks.length + ys.length
  | [], acc, ks, h, n => ⟨ks, h, n, fun y => by simp, Nat.le_refl _⟩
  | x :: ys, acc, ks, h, n => by
    have h2 := put_keys acc ks x (.bl true) h
    by_cases c : x ∈ ks
    · rw [if_pos c] at h2
      obtain ⟨ks', a, b, m, l⟩ := merge_keys ys (putK acc (Sum.inr x) (.bl true)) ks h2 n
      refine ⟨ks', a, b, fun y => ?_, by rw [List.length_cons]; omega⟩
      rw [m, List.mem_cons]
      constructor
      · exact fun z => z.elim .inl fun z => .inr (.inr z)
      · rintro (z | z | z)
        · exact .inl z
        · exact .inl (z ▸ c)
        · exact .inr z
    · rw [if_neg c] at h2
      obtain ⟨ks', a, b, m, l⟩ := merge_keys ys (putK acc (Sum.inr x) (.bl true)) (ks ++ [x]) h2 (List.nodup_append.mpr ⟨n, List.nodup_cons.mpr ⟨by simp, List.nodup_nil⟩, fun a ha b hb => by
        rw [List.mem_singleton] at hb
        rw [hb]
        exact fun z => c (z ▸ ha)⟩)
      refine ⟨ks', a, b, fun y => ?_, by rw [List.length_append, List.length_singleton] at l; rw [List.length_cons]; omega⟩
      rw [m, List.mem_append, List.mem_singleton, List.mem_cons (a := y) (b := x)]
      exact or_assoc
abbrev sLCl : Stmt := top 50
def spLCl (K : PySem.W.Frag) : Sp := fun vs H Q _ => ∃ (a : Addr) (ys : List Str), vs = [.ref a] ∧ Sq K H a (ys.map V.str) ∧ ys.length < 64 ∧ Made H Q ys
theorem sc_lcl : FnScope ["_law_literals", "_law_literal"] ["_law_literals"] (defScope sLCl) := ⟨rfl, rfl, rfl, by decide +kernel, rfl, by decide +kernel, by decide +kernel⟩
theorem ok_lcl {f : Addr} {fd : FuncData} (G : Fun K "_law_clause" "_law_clause" sLCl f fd) (B : Pts mg) : FnOk P w K mg base CX0 1 f fd ["_law_literals"] (spLCl K) := by
  have sc := sc_lcl
  refine G.ok sc (fun vs H Q E h => ?_) (fun cdv A outer s H vs Q E hr h => ?_)
  · obtain ⟨_, _, rfl, _⟩ := h
    rfl
  · obtain ⟨a, ys, rfl, hS, few, k⟩ := h
    have big : (1000 : Nat) < sizeLine := by decide
    refine ⟨_, pss_one (ps_ret (pe_callTy call_tuple_of (by rfl) B.tuple boot_tuple (pa_cons (pe_callB (call_sortedD rfl) (by rfl) B.sorted (by decide +kernel) (pa_cons (pe_callTy (call_dictP rfl) (by rfl) B.dict boot_dict (pa_cons
      (pe_lc (own := [("_law_literal", 1)]) (g := gName 1) (tt := tYes) rfl sc.nd (pi_sq (pv 0))
        (blkOk_by (N := ["_law_literals", "_law_literal"]) (sc := defScope sLCl) (by decide +kernel)) (fun _ _ _ _ _ => pg_name (i := 1) sc.nd rfl (Or.inl rfl)) (fun _ _ _ _ _ => pts_nil)
        (fun _ _ _ _ _ => pe_tup (pa_cons (pv 1) (pa_cons pe_bl pa_nil)))) pa_nil)) pa_nil)) pa_nil))), ?_⟩
    dsimp only [tSeq, tAsg, tRet, tCB, tCons, tNil, tCall, tNext]
    refine tups_seq fPair rfl hS (by rw [List.length_map]; omega) (fun x H2 Ψ Θ hx s2 yes => ?_) (fun H2 D ts s2 nD h2 tp => ?_)
    · obtain ⟨y, hy, rfl⟩ := List.mem_map.mp hx
      walk_at "go"
      exact ⟨(by show 2 ≤ sizeLine; decide), fun t nt => yes t _ (same_new nt) upd_same⟩
    · refine ⟨D, ts, mk ys, rfl, SqL.of h2, pairs_of tp ys rfl, fun d nd => ?_⟩
      obtain ⟨ks, e, nod, mem, le⟩ := merge_keys ys [] [] rfl List.nodup_nil
      refine ⟨d, _, ks, rfl, .inl upd_same, e, by rw [List.length_nil] at le; omega, fun rs r pm so nr => ?_⟩
      refine ⟨r, _, rfl, .inl ⟨SqL.of upd_same, fun t nt => ?_⟩⟩
      have s3 := same_trans (same_trans s2 (same_new (o := .dK (mergeK [] (mk ys))) nd)) (same_new (o := .lst (rs.map V.str)) nr)
      refine k _ t rs (same_trans s3 (same_new nt)) (same_free s3 nt) upd_same ⟨pm.nodup_iff.mpr nod, so, fun y => ?_, ?_⟩
      · rw [pm.mem_iff, mem]
        simp
      · rw [pm.length_eq]
        rw [List.length_nil, Nat.zero_add] at le
        exact le
/-! ### _law_kept_by -/
def spLKept (K : PySem.W.Frag) : Sp := fun vs H Q _ => ∃ (a b : Addr) (zs ys : List Str), vs = [.ref a, .ref b] ∧ Sq K H a (zs.map V.str) ∧ Sq K H b (ys.map V.str) ∧ ys.length < sizeLine ∧ ∀ H', Same H H' → Q (.bl (ys.any fun y => decide (y ∈ zs))) H'
end
end My
end

section
set_option Elab.async false
set_option linter.all false
set_option maxRecDepth 100000
set_option maxHeartbeats 4000000
namespace My
local macro_rules | `(tactic| walk_at "go") => `(tactic| (repeat (first
  | (refine ⟨_, rfl, ?_⟩)
  | (refine ⟨_, _, rfl, rfl, ?_⟩)
  | (refine ⟨_, _, rfl, ?_⟩)
  | (refine ⟨rfl, ?_⟩)
  | (refine Or.inl ⟨_, rfl, ?_⟩)
  | (refine ⟨_, _, _, _, rfl, rfl, L2.SqL.of (by first | assumption | exact L2.upd_same), rfl, ?_⟩)
  | (refine ⟨_, _, _, _, rfl, rfl, (by first | assumption | exact L2.upd_same), rfl, ?_⟩)
  | (refine And.intro (by first | omega | decide | (unfold L2.CPow; decide) | (unfold L2.CMul; omega) | (unfold L2.CDiv; omega)) ?_))))
open PySem PySem.Spec PyProof.Rows L2 TL MyF MyS MyW RZ
section
variable {P : Program} {w : World} {K : PySem.W.Frag} {mg : Str → Option Value} {base : Heap}
/-! ### _law_exact -/
/-- None, a truth value, a whole number, a text: the same on both sides -/
inductive Leaf : V → String → Prop
  | non : Leaf .non "NoneType"
  | bl (b : Bool) : Leaf (.bl b) "bool"
  | int (i : Int) : Leaf (.int i) "int"
  | str (z : Str) : Leaf (.str z) "str"
theorem Leaf.ty {x : V} {t : String} (h : Leaf x t) {H : Hp} : TyX K H x (.type t) := by
  cases h with
  | non => exact .base .non
  | bl b => exact .base (.bl b)
  | int i => exact .base (.int i)
  | str z => exact .base (.str z)
/-- alike, through d layers of lists, tuples, dicts of texts -/
def Ex (K : PySem.W.Frag) (H : Hp) : Nat → V → V → Prop
  | 0, x, y => x = y ∧ ∃ t, Leaf x t
  | d + 1, x, y => (x = y ∧ ∃ t, Leaf x t) ∨
    (∃ (a b : Addr) (xs ys : List V), x = .ref a ∧ y = .ref b ∧ ((SqL K H a xs ∧ SqL K H b ys) ∨ (SqT K H a xs ∧ SqT K H b ys)) ∧ xs.length = ys.length ∧ xs.length < 1000 ∧ ∀ (i : Nat) (u v : V), xs[i]? = some u → ys[i]? = some v → Ex K H d u v) ∨
    (1 ≤ d ∧ ∃ (a b : Addr) (ps : List (Str × Str)), x = .ref a ∧ y = .ref b ∧ a ≠ b ∧ H a = some (.dK (dm ps)) ∧ H b = some (.dK (dm ps)) ∧ (ps.map (·.1)).Nodup ∧ ps.length < 1000)
theorem Ex.same {H H' : Hp} (s : Same H H') : ∀ {d : Nat} {x y : V}, Ex K H d x y → Ex K H' d x y
  | 0, _, _, h => (show _ ∧ _ from h)
  | d + 1, x, y, h => by
    rcases h with h | ⟨a, b, xs, ys, e1, e2, h, hl, few, k⟩ | ⟨hd, a, b, ps, e1, e2, ne, h1, h2, r⟩
    · exact .inl h
    · exact .inr (.inl ⟨a, b, xs, ys, e1, e2, h.imp (fun z => ⟨sqL_same z.1 s, sqL_same z.2 s⟩) (fun z => ⟨sqT_same z.1 s, sqT_same z.2 s⟩), hl, few, fun i u v hu hv => Ex.same s (k i u v hu hv)⟩)
    · exact .inr (.inr ⟨hd, a, b, ps, e1, e2, ne, s _ _ h1, s _ _ h2, r⟩)
abbrev sExact : Stmt := top 45
def spExact (K : PySem.W.Frag) (d : Nat) : Sp := fun vs H Q _ => ∃ x y, vs = [x, y] ∧ Ex K H d x y ∧ ∀ H', Same H H' → Q (.bl true) H'
theorem sc_exact : FnScope ["_law_mine", "_law_theirs", "_law_alike", "_law_a", "_law_b", "_law_key"] ["_law_mine", "_law_theirs"] (defScope sExact) := ⟨rfl, rfl, rfl, by decide +kernel, rfl, by decide +kernel, by decide +kernel⟩
structure Ets (mg : Str → Option Value) : Prop where
  isinstance : mg "isinstance" = none
  int : mg "int" = none
  bool : mg "bool" = none
  list : mg "list" = none
  tuple : mg "tuple" = none
  dict : mg "dict" = none
  len : mg "len" = none
  all : mg "all" = none
  zip : mg "zip" = none
theorem ok_exact0 {f : Addr} {fd : FuncData} (G : Fun K "_law_exact" "_law_exact" sExact f fd) (B : Ets mg) : FnOk P w K mg base CX0 1 f fd ["_law_mine", "_law_theirs"] (spExact K 0) := by
  have sc := sc_exact
  refine G.ok sc (fun vs H Q E h => ?_) (fun cdv A outer s H vs Q E hr h => ?_)
  · obtain ⟨_, _, rfl, _⟩ := h
    rfl
  · obtain ⟨x, y, rfl, ⟨rfl, t, lf⟩, k⟩ := h
    refine ⟨_, pss_cons (ps_if (pt_val (pe_callB call_isiT (by rfl) B.isinstance boot_isinstance (pa_cons (pv 0) (pa_cons (pe_tup (pa_cons (pe_bltn (v := .ty "list") (by rfl) B.list boot_list rfl) (pa_cons (pe_bltn (v := .ty "tuple") (by rfl) B.tuple boot_tuple rfl) pa_nil))) pa_nil)))) pss_never pss_nil)
      (pss_cons (ps_if (pt_val (pe_callB call_isi (by rfl) B.isinstance boot_isinstance (pa_cons (pv 0) (pa_cons (pe_bltn (v := .ty "dict") (by rfl) B.dict boot_dict rfl) pa_nil)))) pss_never pss_nil)
      (pss_cons (ps_set (i := 2) sc.nd rfl (Or.inl rfl) (pe_cmpR op_eq (pe_callB call_isi (by rfl) B.isinstance boot_isinstance (pa_cons (pv 0) (pa_cons (pe_bltn (v := .ty "int") (by rfl) B.int boot_int rfl) pa_nil)))
        (pe_callB call_isi (by rfl) B.isinstance boot_isinstance (pa_cons (pv 1) (pa_cons (pe_bltn (v := .ty "int") (by rfl) B.int boot_int rfl) pa_nil))) (nomark _)))
      (pss_one (ps_ret (pe_and (pv 2) (pe_and (pe_cmpR op_eq (pe_callB call_isi (by rfl) B.isinstance boot_isinstance (pa_cons (pv 0) (pa_cons (pe_bltn (v := .ty "bool") (by rfl) B.bool boot_bool rfl) pa_nil)))
        (pe_callB call_isi (by rfl) B.isinstance boot_isinstance (pa_cons (pv 1) (pa_cons (pe_bltn (v := .ty "bool") (by rfl) B.bool boot_bool rfl) pa_nil))) (nomark _)) (pe_one (pe_cmpR op_eq (pv 0) (pv 1) (nomark _))))))))), ?_⟩
    have kT : PySem.W.kitAny K (.type t) [.type "list", .type "tuple"] = some false := by
      cases lf <;> rfl
    have kD : PySem.W.kitOne K (.type t) (.type "dict") = some false := by
      cases lf <;> exact kit_ty (by decide +kernel)
    obtain ⟨bi, kI⟩ : ∃ bi, PySem.W.kitOne K (.type t) (.type "int") = some bi := by
      cases lf <;> first | exact ⟨true, kit_ty (by decide +kernel)⟩ | exact ⟨false, kit_ty (by decide +kernel)⟩
    obtain ⟨bb, kB⟩ : ∃ bb, PySem.W.kitOne K (.type t) (.type "bool") = some bb := by
      cases lf <;> first | exact ⟨true, kit_ty (by decide +kernel)⟩ | exact ⟨false, kit_ty (by decide +kernel)⟩
    have sc2 : scal x x = true := by
      cases lf <;> rfl
    walk_at "go"
    refine fun p np => ⟨x, p, [.ty "list", .ty "tuple"], _, _, false, rfl, upd_same, .cons (.ty "list") (.cons (.ty "tuple") .nil), lf.ty, kT, ?_⟩
    refine ⟨_, rfl, iteF ?_⟩
    refine ⟨_, rfl, x, .ty "dict", _, _, false, rfl, .ty "dict", lf.ty, kD, ?_⟩
    refine ⟨_, rfl, iteF ?_⟩
    refine ⟨_, rfl, x, .ty "int", _, _, bi, rfl, .ty "int", lf.ty, kI, ?_⟩
    refine ⟨_, rfl, x, .ty "int", _, _, bi, rfl, .ty "int", lf.ty, kI, ?_⟩
    refine ⟨rfl, ?_⟩
    have e1 : decide (V.bl bi = V.bl bi) = true := decide_eq_true rfl
    have e2 : decide (V.bl bb = V.bl bb) = true := decide_eq_true rfl
    have e3 : decide (x = x) = true := decide_eq_true rfl
    rw [e1]
    refine ⟨_, rfl, _, rfl, iteT ?_⟩
    refine ⟨_, rfl, x, .ty "bool", _, _, bb, rfl, .ty "bool", lf.ty, kB, ?_⟩
    refine ⟨_, rfl, x, .ty "bool", _, _, bb, rfl, .ty "bool", lf.ty, kB, ?_⟩
    refine ⟨rfl, ?_⟩
    rw [e2]
    refine ⟨_, rfl, iteT ?_⟩
    refine ⟨_, rfl, _, rfl, sc2, ?_⟩
    rw [e3]
    exact k _ (same_new np)
theorem Ex.leaf {H : Hp} {x : V} {t : String} (h : Leaf x t) : ∀ d, Ex K H d x x
  | 0 => ⟨rfl, t, h⟩
  | d + 1 => .inl ⟨rfl, t, h⟩
theorem valV_dm : ∀ {ps : List (Str × Str)} {p : Str × Str}, (ps.map (·.1)).Nodup → p ∈ ps → valV (dm ps) (Sum.inr p.1) = some (.str p.2)
  | [], _, _, h => by cases h
  | q :: ps, p, n, h => by
    obtain ⟨n1, n2⟩ := List.nodup_cons.mp n
    rcases List.mem_cons.mp h with e | e
    · subst e
      show ((dm (p :: ps)).find? fun kv => decide (kv.1 = Sum.inr p.1)).map (·.2) = _
      show (List.find? (fun kv => decide (kv.1 = Sum.inr p.1)) ((Sum.inr p.1, V.str p.2) :: dm ps)).map (·.2) = _
      rw [List.find?_cons_of_pos (by exact decide_eq_true rfl)]
      rfl
    · have ne : q.1 ≠ p.1 := fun z => n1 (List.mem_map.mpr ⟨p, e, z.symm⟩)
      have ih := valV_dm n2 e
      show (List.find? (fun kv => decide (kv.1 = Sum.inr p.1)) ((Sum.inr q.1, V.str q.2) :: dm ps)).map (·.2) = _
      rw [List.find?_cons_of_neg]
      · exact ih
      · intro z
        have z2 := of_decide_eq_true z
        injection z2 with z3
        exact ne z3
theorem ok_exactS {m d : Nat} {f : Addr} {fd : FuncData} (G : Fun K "_law_exact" "_law_exact" sExact f fd) (B : Ets mg) (mE : mg "_law_exact" = some (.ref f)) (bE : Binds K fd ["_law_mine", "_law_theirs"] [])
    (OE : FnOk P w K mg base CX0 m f fd ["_law_mine", "_law_theirs"] (spExact K d)) : FnOk P w K mg base CX0 (m + 1) f fd ["_law_mine", "_law_theirs"] (spExact K (d + 1)) := by
  have sc := sc_exact
  refine G.ok sc (fun vs H Q E h => ?_) (fun cdv A outer s H vs Q E hr h => ?_)
  · obtain ⟨_, _, rfl, _⟩ := h
    rfl
  · obtain ⟨x, y, rfl, ex, k⟩ := h
    have hu := hu_of hr
    have big : (100000 : Nat) < sizeLine := by decide
    refine ⟨_, pss_cons (ps_if (pt_val (pe_callB call_isiT (by rfl) B.isinstance boot_isinstance (pa_cons (pv 0) (pa_cons (pe_tup (pa_cons (pe_bltn (v := .ty "list") (by rfl) B.list boot_list rfl) (pa_cons (pe_bltn (v := .ty "tuple") (by rfl) B.tuple boot_tuple rfl) pa_nil))) pa_nil))))
        (pss_cons (ps_set (i := 2) sc.nd rfl (Or.inl rfl) (pe_and (pe_cmpR op_eq (pe_callB call_isi (by rfl) B.isinstance boot_isinstance (pa_cons (pv 1) (pa_cons (pe_bltn (v := .ty "list") (by rfl) B.list boot_list rfl) pa_nil))) (pe_callB call_isi (by rfl) B.isinstance boot_isinstance (pa_cons (pv 0) (pa_cons (pe_bltn (v := .ty "list") (by rfl) B.list boot_list rfl) pa_nil))) (nomark _)) (pe_one (pe_cmpR op_eq (pe_callB call_isi (by rfl) B.isinstance boot_isinstance (pa_cons (pv 1) (pa_cons (pe_bltn (v := .ty "tuple") (by rfl) B.tuple boot_tuple rfl) pa_nil))) (pe_callB call_isi (by rfl) B.isinstance boot_isinstance (pa_cons (pv 0) (pa_cons (pe_bltn (v := .ty "tuple") (by rfl) B.tuple boot_tuple rfl) pa_nil))) (nomark _)))))
        (pss_one (ps_ret (pe_and (pv 2) (pe_and (pe_cmpR op_eq (pe_callB call_len_seq (by rfl) B.len boot_len (pa_cons (pv 0) pa_nil)) (pe_callB call_len_seq (by rfl) B.len boot_len (pa_cons (pv 1) pa_nil)) (nomark _)) (pe_one (pe_callB (cr_all rfl) (by rfl) B.all (by decide +kernel) (pa_cons (pe_lc (own := [("_law_a", 3), ("_law_b", 4)]) (g := gTup K 2 (gCons (gName 3) (gCons (gName 4) gNil))) (tt := tYes) rfl sc.nd
          (pi_zipA (by rfl) B.zip (pa_cons (pv 0) (pa_cons (pv 1) pa_nil)))
          (blkOk_by (N := ["_law_mine", "_law_theirs", "_law_alike", "_law_a", "_law_b", "_law_key"]) (sc := defScope sExact) (by decide +kernel)) (fun _ _ _ _ _ => pg_tup rfl (pgs_cons (pg_name (i := 3) sc.nd rfl (Or.inl rfl)) (pgs_cons (pg_name (i := 4) sc.nd rfl (Or.inl rfl)) pgs_nil))) (fun _ _ _ _ _ => pts_nil)
          (fun _ _ _ _ _ => pe_call OE hr rfl mE G.kp bE .nil pass0 (pa_cons (pv 3) (pa_cons (pv 4) pa_nil)))) pa_nil)))))))) pss_nil)
      (pss_cons (ps_if (pt_val (pe_callB call_isi (by rfl) B.isinstance boot_isinstance (pa_cons (pv 0) (pa_cons (pe_bltn (v := .ty "dict") (by rfl) B.dict boot_dict rfl) pa_nil))))
        (pss_cons (ps_set (i := 2) sc.nd rfl (Or.inl rfl) (pe_and (pe_callB call_isi (by rfl) B.isinstance boot_isinstance (pa_cons (pv 1) (pa_cons (pe_bltn (v := .ty "dict") (by rfl) B.dict boot_dict rfl) pa_nil))) (pe_one (pe_call OE hr rfl mE G.kp bE .nil pass0 (pa_cons (pe_callTy (call_listD rfl) (by rfl) B.list boot_list (pa_cons (pv 0) pa_nil)) (pa_cons (pe_callTy (call_listD rfl) (by rfl) B.list boot_list (pa_cons (pv 1) pa_nil)) pa_nil))))))
        (pss_one (ps_ret (pe_and (pv 2) (pe_one (pe_callB (cr_all rfl) (by rfl) B.all (by decide +kernel) (pa_cons (pe_lock (pe_lc (own := [("_law_key", 5)]) (g := gName 5) (tt := tYes) rfl sc.nd (pi_keys (pv 0))
          (blkOk_by (N := ["_law_mine", "_law_theirs", "_law_alike", "_law_a", "_law_b", "_law_key"]) (sc := defScope sExact) (by decide +kernel)) (fun _ _ _ _ _ => pg_name (i := 5) sc.nd rfl (Or.inl rfl)) (fun _ _ _ _ _ => pts_nil)
          (fun _ _ _ _ _ => pe_call OE hr rfl mE G.kp bE .nil pass0 (pa_cons (pe_dget hu (pv 0) (pv 5) (fun _ _ => rfl)) (pa_cons (pe_dget hu (pv 1) (pv 5) (fun _ _ => rfl)) pa_nil))))) pa_nil))))))) pss_nil)
      (pss_cons (ps_set (i := 2) sc.nd rfl (Or.inl rfl) (pe_cmpR op_eq (pe_callB call_isi (by rfl) B.isinstance boot_isinstance (pa_cons (pv 0) (pa_cons (pe_bltn (v := .ty "int") (by rfl) B.int boot_int rfl) pa_nil))) (pe_callB call_isi (by rfl) B.isinstance boot_isinstance (pa_cons (pv 1) (pa_cons (pe_bltn (v := .ty "int") (by rfl) B.int boot_int rfl) pa_nil))) (nomark _)))
      (pss_one (ps_ret (pe_and (pv 2) (pe_and (pe_cmpR op_eq (pe_callB call_isi (by rfl) B.isinstance boot_isinstance (pa_cons (pv 0) (pa_cons (pe_bltn (v := .ty "bool") (by rfl) B.bool boot_bool rfl) pa_nil))) (pe_callB call_isi (by rfl) B.isinstance boot_isinstance (pa_cons (pv 1) (pa_cons (pe_bltn (v := .ty "bool") (by rfl) B.bool boot_bool rfl) pa_nil))) (nomark _)) (pe_one (pe_cmpR op_eq (pv 0) (pv 1) (nomark _))))))))), ?_⟩
    rcases ex with ⟨rfl, t, lf⟩ | ⟨a, b, xs, ys, rfl, rfl, hS, hl, few, al⟩ | ⟨hd, a, b, ps, rfl, rfl, ne, ha, hb, nd, few⟩
    · have kT : PySem.W.kitAny K (.type t) [.type "list", .type "tuple"] = some false := by
        cases lf <;> rfl
      have kD : PySem.W.kitOne K (.type t) (.type "dict") = some false := by
        cases lf <;> exact kit_ty (by decide +kernel)
      obtain ⟨bi, kI⟩ : ∃ bi, PySem.W.kitOne K (.type t) (.type "int") = some bi := by
        cases lf <;> first | exact ⟨true, kit_ty (by decide +kernel)⟩ | exact ⟨false, kit_ty (by decide +kernel)⟩
      obtain ⟨bb, kB⟩ : ∃ bb, PySem.W.kitOne K (.type t) (.type "bool") = some bb := by
        cases lf <;> first | exact ⟨true, kit_ty (by decide +kernel)⟩ | exact ⟨false, kit_ty (by decide +kernel)⟩
      have sc2 : scal x x = true := by
        cases lf <;> rfl
      walk_at "go"
      refine fun p np => ⟨x, p, [.ty "list", .ty "tuple"], _, _, false, rfl, upd_same, .cons (.ty "list") (.cons (.ty "tuple") .nil), lf.ty, kT, ?_⟩
      refine ⟨_, rfl, iteF ?_⟩
      refine ⟨_, rfl, x, .ty "dict", _, _, false, rfl, .ty "dict", lf.ty, kD, ?_⟩
      refine ⟨_, rfl, iteF ?_⟩
      refine ⟨_, rfl, x, .ty "int", _, _, bi, rfl, .ty "int", lf.ty, kI, ?_⟩
      refine ⟨_, rfl, x, .ty "int", _, _, bi, rfl, .ty "int", lf.ty, kI, ?_⟩
      refine ⟨rfl, ?_⟩
      have e1 : decide (V.bl bi = V.bl bi) = true := decide_eq_true rfl
      have e2 : decide (V.bl bb = V.bl bb) = true := decide_eq_true rfl
      have e3 : decide (x = x) = true := decide_eq_true rfl
      rw [e1]
      refine ⟨_, rfl, _, rfl, iteT ?_⟩
      refine ⟨_, rfl, x, .ty "bool", _, _, bb, rfl, .ty "bool", lf.ty, kB, ?_⟩
      refine ⟨_, rfl, x, .ty "bool", _, _, bb, rfl, .ty "bool", lf.ty, kB, ?_⟩
      refine ⟨rfl, ?_⟩
      rw [e2]
      refine ⟨_, rfl, iteT ?_⟩
      refine ⟨_, rfl, _, rfl, sc2, ?_⟩
      rw [e3]
      exact k _ (same_new np)
    · obtain ⟨T, bL, bT, tyA, tyB, kA, kL, kT⟩ : ∃ (T : String) (bL bT : Bool), (∀ H', Same H H' → TyX K H' (.ref a) (.type T)) ∧ (∀ H', Same H H' → TyX K H' (.ref b) (.type T)) ∧
          PySem.W.kitAny K (.type T) [.type "list", .type "tuple"] = some true ∧ PySem.W.kitOne K (.type T) (.type "list") = some bL ∧ PySem.W.kitOne K (.type T) (.type "tuple") = some bT := by
        rcases hS with ⟨h1, h2⟩ | ⟨h1, h2⟩
        · exact ⟨"list", true, false, fun H' s => lst_ty (sqL_same h1 s), fun H' s => lst_ty (sqL_same h2 s), rfl, kit_ty (by decide +kernel), kit_ty (by decide +kernel)⟩
        · exact ⟨"tuple", false, true, fun H' s => tup_ty (sqT_same h1 s), fun H' s => tup_ty (sqT_same h2 s), rfl, kit_ty (by decide +kernel), kit_ty (by decide +kernel)⟩
      walk_at "go"
      refine fun p np => ?_
      have s1 := same_new (o := .tup [.ty "list", .ty "tuple"]) np
      refine ⟨.ref a, p, [.ty "list", .ty "tuple"], _, _, true, rfl, upd_same, .cons (.ty "list") (.cons (.ty "tuple") .nil), tyA _ s1, kA, ?_⟩
      refine ⟨_, rfl, iteT ?_⟩
      refine ⟨_, rfl, .ref b, .ty "list", _, _, bL, rfl, .ty "list", tyB _ s1, kL, ?_⟩
      refine ⟨_, rfl, .ref a, .ty "list", _, _, bL, rfl, .ty "list", tyA _ s1, kL, ?_⟩
      refine ⟨rfl, ?_⟩
      rw [decide_eq_true (rfl : V.bl bL = V.bl bL)]
      refine ⟨_, rfl, iteT ?_⟩
      refine ⟨_, rfl, .ref b, .ty "tuple", _, _, bT, rfl, .ty "tuple", tyB _ s1, kT, ?_⟩
      refine ⟨_, rfl, .ref a, .ty "tuple", _, _, bT, rfl, .ty "tuple", tyA _ s1, kT, ?_⟩
      refine ⟨rfl, ?_⟩
      rw [decide_eq_true (rfl : V.bl bT = V.bl bT)]
      refine ⟨_, rfl, _, rfl, iteT ?_⟩
      have S1 : ∀ H', Same H H' → (SqL K H' a xs ∨ SqT K H' a xs) := fun H' s => hS.imp (fun z => sqL_same z.1 s) (fun z => sqT_same z.1 s)
      have S2 : ∀ H', Same H H' → (SqL K H' b ys ∨ SqT K H' b ys) := fun H' s => hS.imp (fun z => sqL_same z.2 s) (fun z => sqT_same z.2 s)
      refine ⟨_, rfl, a, xs, rfl, S1 _ s1, ?_⟩
      refine ⟨_, rfl, b, ys, rfl, S2 _ s1, ?_⟩
      refine ⟨rfl, ?_⟩
      rw [decide_eq_true (show V.int ((xs.length : Nat) : Int) = V.int ((ys.length : Nat) : Int) by rw [hl])]
      refine ⟨_, rfl, iteT ?_⟩
      have mn : xs.length = min xs.length ys.length := by omega
      have fin : ∀ (J : It) (G : Hp → Prop), Walk J xs.length G (YPair (fun i => xs[i]?) fun i => ys[i]?) → (∀ H2, Same (upd H p (.tup [.ty "list", .ty "tuple"])) H2 → G H2) → ∀ D, upd H p (.tup [.ty "list", .ty "tuple"]) D = none → _ := fun J G w hG D nD =>
        fm_it (g := gTup K 2 (gCons (gName 3) (gCons (gName 4) gNil))) (tt := tYes) (te := tCall (spExact K d) [] E0 (tCons (tVar 3) (tCons (tVar 4) tNil))) (vs := [3, 4]) (σ := [some (.ref a), some (.ref b), some (.bl true), none, none, none])
          (Qd := fun H2 => rAll K [.ref D] H2 Q) w (fun i => some (.bl true)) nD (by omega) hG
          (fun i x H3 H4 Ψ Θ hi s3 y yes no => by
            obtain ⟨T, u, v, rfl, nT, rfl, hu2, hv2⟩ := y
            refine ⟨T, [u, v], rfl, SqT.of upd_same, rfl, u, [v], rfl, v, [], rfl, rfl, ?_⟩
            have s4 := same_new (o := .tup [u, v]) nT
            exact ⟨rfl, _, rfl, _, rfl, u, v, rfl, (al i u v hu2 hv2).same (same_trans s1 (same_trans s3 s4)), fun H5 s5 => yes _ H5 rfl (same_trans s4 s5)⟩)
          (fun H2 s2 h2 => all_done (xs := List.range xs.length) (b := fun _ => true) h2 (by
            have e : (List.range xs.length).all (fun _ => true) = true := List.all_eq_true.mpr fun _ _ => rfl
            rw [e]
            exact k H2 (same_trans s1 s2)))
      rcases hS with ⟨h1, h2⟩ | ⟨h1, h2⟩
      · exact ⟨_, rfl, _, rfl, a, b, xs, ys, rfl, .inl ⟨sqL_same h1 s1, sqL_same h2 s1, fun D nD => fin _ _ (walk_zip mn) (fun H2 s2 => ⟨sqL_same h1 (same_trans s1 s2), sqL_same h2 (same_trans s1 s2)⟩) D nD⟩⟩
      · exact ⟨_, rfl, _, rfl, a, b, xs, ys, rfl, .inr ⟨sqT_same h1 s1, sqT_same h2 s1, fun D nD => fin _ _ (walk_zipT mn) (fun H2 s2 => ⟨sqT_same h1 (same_trans s1 s2), sqT_same h2 (same_trans s1 s2)⟩) D nD⟩⟩
    · have kA : PySem.W.kitAny K (.type "dict") [.type "list", .type "tuple"] = some false := rfl
      have kD : PySem.W.kitOne K (.type "dict") (.type "dict") = some true := kit_ty (by decide +kernel)
      have tyA : ∀ H', Same H H' → TyX K H' (.ref a) (.type "dict") := fun H' s => .base (.dK (s _ _ ha))
      have tyB : ∀ H', Same H H' → TyX K H' (.ref b) (.type "dict") := fun H' s => .base (.dK (s _ _ hb))
      walk_at "go"
      refine fun p np => ?_
      have s1 := same_new (o := .tup [.ty "list", .ty "tuple"]) np
      refine ⟨.ref a, p, [.ty "list", .ty "tuple"], _, _, false, rfl, upd_same, .cons (.ty "list") (.cons (.ty "tuple") .nil), tyA _ s1, kA, ?_⟩
      refine ⟨_, rfl, iteF ?_⟩
      refine ⟨_, rfl, .ref a, .ty "dict", _, _, true, rfl, .ty "dict", tyA _ s1, kD, ?_⟩
      refine ⟨_, rfl, iteT ?_⟩
      refine ⟨_, rfl, .ref b, .ty "dict", _, _, true, rfl, .ty "dict", tyB _ s1, kD, ?_⟩
      refine ⟨_, rfl, iteT ?_⟩
      have ek : ((dm ps).map fun kv => L2.kV kv.1) = (ps.map (·.1)).map V.str := by
        unfold dm
        rw [List.map_map, List.map_map]
        rfl
      refine ⟨_, rfl, a, _, rfl, .inl (s1 _ _ ha), fun l1 n1 => ?_⟩
      rw [ek]
      have s2 := same_trans s1 (same_new (o := .lst ((ps.map (·.1)).map V.str)) n1)
      refine ⟨_, rfl, b, _, rfl, .inl (s2 _ _ hb), fun l2 n2 => ?_⟩
      rw [ek]
      have s3 := same_trans s2 (same_new (o := .lst ((ps.map (·.1)).map V.str)) n2)
      have g1 := (same_new (o := .lst ((ps.map (·.1)).map V.str)) n2) l1 _ upd_same
      obtain ⟨d', rfl⟩ : ∃ d', d = d' + 1 := ⟨d - 1, by omega⟩
      refine ⟨.ref l1, .ref l2, rfl, .inr (.inl ⟨l1, l2, _, _, rfl, rfl, .inl ⟨SqL.of g1, SqL.of upd_same⟩, rfl, by rw [List.length_map, List.length_map]; exact few, fun i u v hu2 hv2 => ?_⟩), fun H4 s4 => ?_⟩
      · rw [hu2] at hv2
        cases hv2
        obtain ⟨z, _, rfl⟩ := List.mem_map.mp (List.mem_of_getElem? hu2)
        exact Ex.leaf (.str z) d'
      · have s14 := same_trans s3 s4
        refine ⟨_, rfl, _, rfl, iteT ?_⟩
        refine ⟨a, _, s14 _ _ ha, trivial, fun od => ?_⟩
        refine ⟨_, rfl, a, od, rfl, .inl ⟨_, upd_same, fun D nD => ?_⟩⟩
        have hbz : upd H4 a (.frz od (.dK (dm ps))) b = some (.dK (dm ps)) := (upd_ne (Ne.symm ne)).trans (s14 _ _ hb)
        refine fm_it (walk_keys (kvs := dm ps)) (fun i => some (.bl true)) nD (by unfold dm; rw [List.length_map]; omega) (fun H5 s5 => s5 _ _ upd_same) (fun i x H5 H6 Ψ Θ hi s5 y yes no => ?_) (fun H5 s5 h5 => ?_)
        · obtain ⟨rfl, key, v, hkv, rfl⟩ := y
          obtain ⟨q, hq, e⟩ := List.mem_map.mp (List.mem_of_getElem? hkv)
          injection e with e1 e2
          subst e1
          subst e2
          have gA : DGet H6 a (.str q.1) (some (.str q.2)) := .inl ⟨dm ps, Sum.inr q.1, .inr ⟨od, s5 _ _ upd_same⟩, rfl, (valV_dm nd hq).symm⟩
          have gB : DGet H6 b (.str q.1) (some (.str q.2)) := .inl ⟨dm ps, Sum.inr q.1, .inl (s5 _ _ hbz), rfl, (valV_dm nd hq).symm⟩
          refine ⟨rfl, _, rfl, _, rfl, a, _, rfl, gA, _, rfl, _, rfl, b, _, rfl, gB, ?_⟩
          exact ⟨_, _, rfl, Ex.leaf (.str q.2) (d' + 1), fun H7 s7 => yes _ H7 rfl s7⟩
        · refine ⟨s5 _ _ upd_same, ?_⟩
          have nDa : D ≠ a := fun z => by
            rw [z, upd_same] at nD
            cases nD
          have back : Same H4 (upd H5 a (.dK (dm ps))) := fun c o e => by
            by_cases h : c = a
            · rw [h, upd_same, ← e, h]
              exact (s14 _ _ ha).symm
            · rw [upd_ne h]
              exact s5 c o ((upd_ne h).trans e)
          dsimp only [tNil]
          refine all_done (xs := List.range (dm ps).length) (b := fun _ => true) ((upd_ne nDa).trans h5) ?_
          have e : (List.range (dm ps).length).all (fun _ => true) = true := List.all_eq_true.mpr fun _ _ => rfl
          rw [e]
          exact k _ (same_trans s14 back)
end
end My
end

section
set_option Elab.async false
set_option linter.all false
set_option maxRecDepth 100000
set_option maxHeartbeats 4000000
namespace My
local macro_rules | `(tactic| walk_at "go") => `(tactic| (repeat (first
  | (refine ⟨_, rfl, ?_⟩)
  | (refine ⟨_, _, rfl, rfl, ?_⟩)
  | (refine ⟨_, _, rfl, ?_⟩)
  | (refine ⟨rfl, ?_⟩)
  | (refine Or.inl ⟨_, rfl, ?_⟩)
  | (refine ⟨_, _, _, _, rfl, rfl, L2.SqL.of (by first | assumption | exact L2.upd_same), rfl, ?_⟩)
  | (refine ⟨_, _, _, _, rfl, rfl, (by first | assumption | exact L2.upd_same), rfl, ?_⟩)
  | (refine And.intro (by first | omega | decide | (unfold L2.CPow; decide) | (unfold L2.CMul; omega) | (unfold L2.CDiv; omega)) ?_))))
open PySem PySem.Spec PyProof.Rows L2 TL MyF MyS MyW RZ
/-- all but p stays -/
def But (p : Addr) (H H' : Hp) : Prop := ∀ b o, H b = some o → b ≠ p → H' b = some o
theorem But.of {p : Addr} {H H' : Hp} (s : Same H H') : But p H H' := fun b o e _ => s b o e
theorem But.refl (p : Addr) (H : Hp) : But p H H := fun _ _ e _ => e
theorem But.trans {p : Addr} {H H1 H2 : Hp} (a : But p H H1) (b : But p H1 H2) : But p H H2 := fun c o e n => b c o (a c o e n) n
theorem But.set {p : Addr} {H : Hp} {o : HO} : But p H (upd H p o) := fun b u e n => by
  rw [upd_ne n]
  exact e
theorem But.sqL {K : PySem.W.Frag} {p a : Addr} {H H' : Hp} {xs : List V} (h : But p H H') (s : SqL K H a xs) (n : a ≠ p) : SqL K H' a xs := by
  rcases s with (s | ⟨o, s⟩) | s
  · exact .inl (.inl (h _ _ s n))
  · exact .inl (.inr ⟨o, h _ _ s n⟩)
  · exact .inr s
theorem But.sqT {K : PySem.W.Frag} {p a : Addr} {H H' : Hp} {xs : List V} (h : But p H H') (s : SqT K H a xs) (n : a ≠ p) : SqT K H' a xs := by
  rcases s with (s | ⟨o, s⟩) | s
  · exact .inl (.inl (h _ _ s n))
  · exact .inl (.inr ⟨o, h _ _ s n⟩)
  · exact .inr s
section
variable {P : Program} {w : World} {K : PySem.W.Frag} {mg : Str → Option Value} {base : Heap}
/-! ### _law_shuffled -/
abbrev sShuf : Stmt := top 44
def spShuf (K : PySem.W.Frag) : Sp := fun vs H Q _ => ∃ (p q : Addr) (n : Int) (l xs : List V), vs = [.ref p, .ref q] ∧ H p = some (.lst l) ∧ PurseL n l ∧ n ≤ 900000 ∧ SqL K H q xs ∧ q ≠ p ∧ xs.length ≤ 500 ∧
  ∀ (H' : Hp) (r : Addr) (l' ys : List V), But p H H' → H' p = some (.lst l') → PurseL (n + xs.length) l' → H r = none → H' r = some (.lst ys) → ys.Perm xs → Q (.ref r) H'
theorem sc_shuf : FnScope ["_law_purse_here", "_law_some", "_law_found", "_law_item"] ["_law_purse_here", "_law_some"] (defScope sShuf) := ⟨rfl, rfl, rfl, by decide +kernel, rfl, by decide +kernel, by decide +kernel⟩
theorem insert_perm {α : Type} (ys : List α) (x : α) (k : Nat) : (ys.take k ++ [x] ++ ys.drop k).Perm (ys ++ [x]) := by
  have h1 : (ys.take k ++ [x] ++ ys.drop k).Perm (ys.take k ++ (ys.drop k ++ [x])) := by
    rw [List.append_assoc]
    exact List.Perm.append_left _ List.perm_append_comm
  rw [← List.append_assoc, List.take_append_drop] at h1
  exact h1
theorem ok_shuf {f fD : Addr} {fd fdD : FuncData} (G : Fun K "_law_shuffled" "_law_shuffled" sShuf f fd) (hlen : mg "len" = none) (mD : mg "_law_draw" = some (.ref fD)) (kD : PySem.W.keepIn K (.ref fD) = true)
    (OD : FnOk P w K mg base CX0 2 fD fdD ["_law_purse_here", "_law_many"] spDraw) (bD : Binds K fdD ["_law_purse_here", "_law_many"] []) : FnOk P w K mg base CX0 3 f fd ["_law_purse_here", "_law_some"] (spShuf K) := by
  have sc := sc_shuf
  refine G.ok sc (fun vs H Q E h => ?_) (fun cdv A outer s H vs Q E hr h => ?_)
  · obtain ⟨_, _, _, _, _, rfl, _⟩ := h
    rfl
  · obtain ⟨p, q, n, l, xs, rfl, hp, hl, hn, hS, nqp, few, k⟩ := h
    have big : (100000 : Nat) < sizeLine := by decide
    refine ⟨_, pss_cons (ps_set (i := 2) sc.nd rfl (Or.inl rfl) (pe_lst pa_nil)) (pss_cons (ps_for PassesOwn.never rfl (pi_list (pv 1)) (pg_name (i := 3) sc.nd rfl (Or.inl rfl))
      (pss_one (ps_expr (pe_bm PySem.F.plainAttrs_list PySem.F.slot_list_insert PySem.F.type_list_insert mt_insert (pv 2) (pa_cons (pe_call OD hr rfl mD kD bD .nil pass0 (pa_cons (pv 0) (pa_cons (pe_op op_add (pe_callB call_len_seq (by rfl) hlen boot_len (pa_cons (pv 2) pa_nil)) pe_int) pa_nil))) (pa_cons (pv 3) pa_nil))))))
      (pss_one (ps_ret (pv 2)))), ?_⟩
    refine ⟨Nat.zero_le _, fun D nD => ?_⟩
    have nDp : D ≠ p := fun z => by
      rw [z, hp] at nD
      cases nD
    refine ⟨_, rfl, q, rfl, ⟨xs, sqL_same hS (same_new nD)⟩, ?_⟩
    refine for_list (xs := xs) (fun i σ H2 => i ≤ xs.length ∧ ∃ (l' ys : List V) (v : Option V), σ = [some (.ref p), some (.ref q), some (.ref D), v] ∧ But p H H2 ∧ H2 p = some (.lst l') ∧ PurseL (n + (i : Int)) l' ∧ H2 D = some (.lst ys) ∧ ys.Perm (xs.take i)) ?_ ?_ ?_ ?_
    · exact ⟨Nat.zero_le _, l, [], none, rfl, .of (same_new nD), (upd_ne (Ne.symm nDp)).trans hp, by simpa using hl, upd_same, by simp⟩
    · rintro i σ H2 hi ⟨_, l', ys, v, rfl, bu, _⟩
      exact bu.sqL hS nqp
    · rintro i x σ H2 hx ⟨hi, l', ys, v, rfl, bu, hp2, hl2, hD, pm⟩
      have hi2 : i < xs.length := (List.getElem?_eq_some_iff.mp hx).1
      have ly : ys.length = i := by
        rw [pm.length_eq, List.length_take]
        omega
      refine ⟨_, rfl, .inl ⟨rfl, _, SqL.of hD⟩, ?_⟩
      refine ⟨_, rfl, _, rfl, D, _, rfl, .inl (SqL.of hD), ?_⟩
      refine ⟨_, _, rfl, rfl, ?_⟩
      refine ⟨p, _, _, l', rfl, hp2, hl2, by omega, by omega, by omega, fun l2 r hl3 r0 r1 => ?_⟩
      have hD2 := (upd_ne (o := .lst l2) nDp).trans hD
      refine ⟨_, rfl, D, ys, r, x, rfl, rfl, hD2, by omega, r0, by omega, ?_⟩
      refine ⟨hi2, l2, _, _, rfl, ?_, (upd_ne (Ne.symm nDp)).trans upd_same, ?_, upd_same, ?_⟩
      · intro b o e ne
        have ne2 : b ≠ D := ne_of_none e nD
        rw [upd_ne ne2, upd_ne ne]
        exact bu b o e ne
      · have e : n + ((i + 1 : Nat) : Int) = n + (i : Int) + 1 := by omega
        rw [e]
        exact hl3
      · refine (insert_perm ys x r.toNat).trans ?_
        rw [List.take_add_one, hx]
        exact pm.append_right [x]
    · rintro σ H2 ⟨_, l', ys, v, rfl, bu, hp2, hl2, hD, pm⟩
      rw [List.take_length] at pm
      exact ⟨_, rfl, k H2 D l' ys bu hp2 hl2 nD hD pm⟩
end
end My
end

section
set_option Elab.async false
set_option linter.all false
set_option maxRecDepth 100000
set_option maxHeartbeats 4000000
namespace My
local macro_rules | `(tactic| walk_at "go") => `(tactic| (repeat (first
  | (refine ⟨_, rfl, ?_⟩)
  | (refine ⟨_, _, rfl, rfl, ?_⟩)
  | (refine ⟨_, _, rfl, ?_⟩)
  | (refine ⟨rfl, ?_⟩)
  | (refine Or.inl ⟨_, rfl, ?_⟩)
  | (refine ⟨_, _, _, _, rfl, rfl, L2.SqL.of (by first | assumption | exact L2.upd_same), rfl, ?_⟩)
  | (refine ⟨_, _, _, _, rfl, rfl, (by first | assumption | exact L2.upd_same), rfl, ?_⟩)
  | (refine And.intro (by first | omega | decide | (unfold L2.CPow; decide) | (unfold L2.CMul; omega) | (unfold L2.CDiv; omega)) ?_))))
open PySem PySem.Spec PyProof.Rows L2 TL MyF MyS MyW RZ
/-! ### literals of names -/
theorem abc_range : ∀ c ∈ abc, 97 ≤ c ∧ c ≤ 122 := by decide +kernel
theorem low_parts {s : Str} (h : lowZ s = true) : 1 ≤ s.length ∧ s.length ≤ 8 ∧ ∀ c ∈ s.cps.toList, 97 ≤ c ∧ c ≤ 122 := by
  unfold lowZ at h
  rw [Bool.and_eq_true, Bool.and_eq_true] at h
  refine ⟨of_decide_eq_true h.1.1, of_decide_eq_true h.1.2, fun c hc => ?_⟩
  exact abc_range c (of_decide_eq_true (List.all_eq_true.mp h.2 c hc))
theorem low_neg {s : Str} (h : lowZ s = true) : ¬ negS s = true := by
  obtain ⟨h1, _, h2⟩ := low_parts h
  obtain ⟨c, hc, e⟩ := first_cps h1
  rw [e]
  intro z
  have z2 := of_decide_eq_true z
  have := (h2 c (List.mem_of_getElem? hc)).1
  omega
theorem bare_low {s : Str} (h : lowZ s = true) : bareS s = s := bare_of_pos (low_neg h)
theorem neg_dash (s : Str) : negS (dash ++ s) = true := by
  rw [neg_eq, cps_cat, dash_cps]
  rfl
theorem bare_dash (s : Str) : bareS (dash ++ s) = s := by
  refine str_ext ?_
  rw [bare_eq, if_pos (neg_dash s), cps_cat, dash_cps]
  rfl
theorem len_dash (s : Str) : (dash ++ s).length = s.length + 1 := by
  have e : (dash ++ s).length = (dash ++ s).cps.toList.length := Array.length_toList.symm
  rw [e, cps_cat, dash_cps, List.length_append, List.length_singleton, Array.length_toList]
  exact Nat.add_comm ..
/-- c is the name s or its contrary -/
def Sg (c s : Str) : Prop := c = s ∨ c = dash ++ s
theorem Sg.bare {c s : Str} (h : Sg c s) (l : lowZ s = true) : bareS c = s := by
  rcases h with rfl | rfl
  · exact bare_low l
  · exact bare_dash s
theorem Sg.lit {c s : Str} (h : Sg c s) (l : lowZ s = true) : litS c = true := by
  unfold litS
  rw [h.bare l]
  exact l
theorem Sg.opp {c s : Str} (h : Sg c s) (l : lowZ s = true) : Sg (oppS c) s ∧ oppS c ≠ c := by
  rcases h with rfl | rfl
  · have e : oppS c = dash ++ c := if_neg (low_neg l)
    rw [e]
    refine ⟨.inr rfl, fun z => ?_⟩
    have := congrArg Str.length z
    rw [len_dash] at this
    omega
  · have e : oppS (dash ++ s) = s := (if_pos (neg_dash s)).trans (bare_dash s)
    rw [e]
    refine ⟨.inl rfl, fun z => ?_⟩
    have := congrArg Str.length z
    rw [len_dash] at this
    omega
/-- a clause over the names ns -/
structure Good (ns rs : List Str) : Prop where
  lit : ∀ y ∈ rs, ∃ s ∈ ns, Sg y s
  one : (rs.map bareS).Nodup
  up : sortedS rs = true
theorem nodup_of_map {α β : Type} (f : α → β) {l : List α} (h : (l.map f).Nodup) : l.Nodup := List.Pairwise.of_map f (fun _ _ hne e => hne (congrArg f e)) h
theorem inj_of_nodup {α β : Type} {f : α → β} : ∀ {l : List α}, (l.map f).Nodup → ∀ {x y : α}, x ∈ l → y ∈ l → f x = f y → x = y
  | [], _, _, _, h, _, _ => by cases h
  | a :: l, n, x, y, hx, hy, e => by
    obtain ⟨n1, n2⟩ := List.nodup_cons.mp n
    rcases List.mem_cons.mp hx with hx | hx
    · rcases List.mem_cons.mp hy with hy | hy
      · rw [hx, hy]
      · exact absurd (List.mem_map.mpr ⟨y, hy, by rw [← e, hx]⟩) n1
    · rcases List.mem_cons.mp hy with hy | hy
      · exact absurd (List.mem_map.mpr ⟨x, hx, by rw [e, hy]⟩) n1
      · exact inj_of_nodup n2 hx hy e
theorem lt_of_sorted {a b : Str} (h : ltCps b.cps.toList a.cps.toList = false) (ne : a ≠ b) : ltS a b = true := by
  rw [ltCps_eq] at h
  unfold ltS
  by_cases c : a.cps.toList < b.cps.toList
  · exact decide_eq_true c
  · exact absurd (str_ext (PyProof.Rows.strKind.total _ _ (decide_eq_false c) h)) ne
theorem asc_of_sorted : ∀ {rs : List Str}, sortedS rs = true → rs.Nodup → ascS rs = true
  | [], _, _ => rfl
  | [x], _, _ => rfl
  | x :: y :: r, h, n => by
    have h1 : (!ltCps y.cps.toList x.cps.toList && risingS y r) = true := h
    rw [Bool.and_eq_true, Bool.not_eq_true'] at h1
    obtain ⟨n1, n2⟩ := List.nodup_cons.mp n
    have ne : x ≠ y := fun z => n1 (z ▸ List.mem_cons_self ..)
    show (ltS x y && ascS (y :: r)) = true
    rw [lt_of_sorted h1.1 ne, asc_of_sorted (rs := y :: r) h1.2 n2]
    rfl
theorem Good.cl {ns rs : List Str} (h : Good ns rs) (lo : ns.all lowZ = true) : clS rs = true := by
  have low : ∀ s ∈ ns, lowZ s = true := fun s hs => List.all_eq_true.mp lo s hs
  have e1 : rs.all litS = true := List.all_eq_true.mpr fun y hy => by
    obtain ⟨s, hs, sg⟩ := h.lit y hy
    exact sg.lit (low s hs)
  have e2 : ascS rs = true := asc_of_sorted h.up (nodup_of_map bareS h.one)
  have e3 : hasS rs = false := List.any_eq_false.mpr fun y hy z => by
    obtain ⟨s, hs, sg⟩ := h.lit y hy
    have hm := of_decide_eq_true z
    obtain ⟨so, ne⟩ := sg.opp (low s hs)
    refine ne ?_
    have eb : bareS (oppS y) = bareS y := by rw [so.bare (low s hs), sg.bare (low s hs)]
    exact inj_of_nodup h.one hm hy eb
  unfold clS
  rw [e1, e2, e3]
  rfl
end My
end

section
set_option Elab.async false
set_option linter.all false
set_option maxRecDepth 100000
set_option maxHeartbeats 4000000
namespace My
local macro_rules | `(tactic| walk_at "go") => `(tactic| (repeat (first
  | (refine ⟨_, rfl, ?_⟩)
  | (refine ⟨_, _, rfl, rfl, ?_⟩)
  | (refine ⟨_, _, rfl, ?_⟩)
  | (refine ⟨rfl, ?_⟩)
  | (refine Or.inl ⟨_, rfl, ?_⟩)
  | (refine ⟨_, _, _, _, rfl, rfl, L2.SqL.of (by first | assumption | exact L2.upd_same), rfl, ?_⟩)
  | (refine ⟨_, _, _, _, rfl, rfl, (by first | assumption | exact L2.upd_same), rfl, ?_⟩)
  | (refine And.intro (by first | omega | decide | (unfold L2.CPow; decide) | (unfold L2.CMul; omega) | (unfold L2.CDiv; omega)) ?_))))
open PySem PySem.Spec PyProof.Rows L2 TL MyF MyS MyW RZ
/-! ### one order alone -/
theorem ltS_trans {a b c : Str} (h : ltS a b = true) (k : ltS b c = true) : ltS a c = true := PyProof.Rows.strKind.trans _ _ _ h k
theorem ltS_irrefl (a : Str) : ltS a a = false := PyProof.Rows.strKind.irrefl _
theorem asc_pw : ∀ {rs : List Str}, ascS rs = true → rs.Pairwise fun a b => ltS a b = true
  | [], _ => .nil
  | [x], _ => List.pairwise_singleton ..
  | x :: y :: r, h => by
    have h1 : (ltS x y && ascS (y :: r)) = true := h
    rw [Bool.and_eq_true] at h1
    have ih := asc_pw (rs := y :: r) h1.2
    refine List.pairwise_cons.mpr ⟨fun z hz => ?_, ih⟩
    rcases List.mem_cons.mp hz with e | e
    · rw [e]
      exact h1.1
    · exact ltS_trans h1.1 (List.rel_of_pairwise_cons ih e)
theorem pw_uniq : ∀ {rs ss : List Str}, rs.Pairwise (fun a b => ltS a b = true) → ss.Pairwise (fun a b => ltS a b = true) → (∀ y, y ∈ rs ↔ y ∈ ss) → rs = ss
  | [], [], _, _, _ => rfl
  | [], s :: ss, _, _, m => absurd ((m s).mpr (List.mem_cons_self ..)) (by simp)
  | r :: rs, [], _, _, m => absurd ((m r).mp (List.mem_cons_self ..)) (by simp)
  | r :: rs, s :: ss, p, q, m => by
    obtain ⟨p1, p2⟩ := List.pairwise_cons.mp p
    obtain ⟨q1, q2⟩ := List.pairwise_cons.mp q
    have e : r = s := by
      rcases List.mem_cons.mp ((m r).mp (List.mem_cons_self ..)) with h | h
      · exact h
      · rcases List.mem_cons.mp ((m s).mpr (List.mem_cons_self ..)) with k | k
        · exact k.symm
        · have := ltS_trans (q1 r h) (p1 s k)
          rw [ltS_irrefl] at this
          cases this
    subst e
    have nr : r ∉ rs := fun h => by
      have := p1 r h
      rw [ltS_irrefl] at this
      cases this
    have ns : r ∉ ss := fun h => by
      have := q1 r h
      rw [ltS_irrefl] at this
      cases this
    rw [pw_uniq p2 q2 fun y => ⟨fun h => by
      rcases List.mem_cons.mp ((m y).mp (List.mem_cons_of_mem _ h)) with e | e
      · exact absurd (e ▸ h) nr
      · exact e, fun h => by
      rcases List.mem_cons.mp ((m y).mpr (List.mem_cons_of_mem _ h)) with e | e
      · exact absurd (e ▸ h) ns
      · exact e⟩]
theorem InOrd.pw {rs ys : List Str} (h : InOrd rs ys) : rs.Pairwise fun a b => ltS a b = true := asc_pw (asc_of_sorted h.up h.nd)
theorem InOrd.uniq {rs ss ys zs : List Str} (h : InOrd rs ys) (k : InOrd ss zs) (m : ∀ y, y ∈ ys ↔ y ∈ zs) : rs = ss := pw_uniq h.pw k.pw fun y => (h.mem y).trans ((m y).trans (k.mem y).symm)
section
variable {P : Program} {w : World} {K : PySem.W.Frag} {mg : Str → Option Value} {base : Heap}
/-! ### _law_drawn_clause -/
theorem cutV_take (xs : List V) (k : Int) (h0 : 0 ≤ k) : cutV xs none (some k) = xs.take k.toNat := by
  obtain ⟨j, rfl⟩ : ∃ j : Nat, k = (j : Int) := ⟨k.toNat, by omega⟩
  show (xs.drop (HT.sIx xs.length 0 none)).take (HT.sIx xs.length xs.length (some ((j : Nat) : Int)) - HT.sIx xs.length 0 none) = _
  rw [HT.sIx_nat, HT.sIx_none, List.drop_zero, Nat.sub_zero]
  rw [Int.toNat_natCast]
  rcases Nat.le_total j xs.length with h | h
  · rw [Nat.min_eq_left h]
  · rw [Nat.min_eq_right h, List.take_of_length_le (Nat.le_refl _), List.take_of_length_le h]
/-- signs before names -/
def Sgs (cs ss : List Str) : Prop := Paired Sg cs ss
theorem Sgs.snoc {cs ss : List Str} {c s : Str} (h : Sgs cs ss) (k : Sg c s) : Sgs (cs ++ [c]) (ss ++ [s]) := paired_snoc h k
theorem Sgs.bare {cs ss : List Str} (h : Sgs cs ss) (lo : ∀ s ∈ ss, lowZ s = true) : cs.map bareS = ss := by
  induction h with
  | nil => rfl
  | @cons c s cs ss r t ih =>
    rw [List.map_cons, ih fun x hx => lo x (List.mem_cons_of_mem _ hx), r.bare (lo s (List.mem_cons_self ..))]
theorem Sgs.len {cs ss : List Str} (h : Sgs cs ss) : cs.length = ss.length := Paired.length h
theorem Sgs.lit {cs ss : List Str} (h : Sgs cs ss) : ∀ c ∈ cs, ∃ s ∈ ss, Sg c s := by
  induction h with
  | nil => intro c hc; cases hc
  | @cons c s cs ss r t ih =>
    intro x hx
    rcases List.mem_cons.mp hx with e | e
    · rw [e]
      exact ⟨s, List.mem_cons_self .., r⟩
    · obtain ⟨s2, h2, k⟩ := ih x e
      exact ⟨s2, List.mem_cons_of_mem _ h2, k⟩
/-- a clause of signed names, put in order -/
theorem good_of {ns ss cs rs : List Str} (sg : Sgs cs ss) (nd : ss.Nodup) (sub : ∀ s ∈ ss, s ∈ ns) (lo : ns.all lowZ = true) (io : InOrd rs cs) : Good ns rs ∧ rs.length = ss.length := by
  have low : ∀ s ∈ ss, lowZ s = true := fun s hs => List.all_eq_true.mp lo s (sub s hs)
  have eb := sg.bare low
  have ndc : cs.Nodup := nodup_of_map bareS (by rw [eb]; exact nd)
  have pm : rs.Perm cs := (List.perm_ext_iff_of_nodup io.nd ndc).mpr io.mem
  refine ⟨⟨fun y hy => ?_, ?_, io.up⟩, by rw [pm.length_eq, sg.len]⟩
  · obtain ⟨s, hs, k⟩ := sg.lit y ((io.mem y).mp hy)
    exact ⟨s, sub s hs, k⟩
  · rw [(pm.map bareS).nodup_iff, eb]
    exact nd
abbrev sDrawn : Stmt := top 57
def spDrawn (K : PySem.W.Frag) : Sp := fun vs H Q _ => ∃ (p q : Addr) (n most : Int) (l : List V) (ns : List Str), vs = [.ref p, .ref q, .int most] ∧ H p = some (.lst l) ∧ PurseL n l ∧ n ≤ 800000 ∧ SqL K H q (ns.map V.str) ∧ q ≠ p ∧ ns.Nodup ∧ ns.all lowZ = true ∧
  1 ≤ ns.length ∧ ns.length ≤ 6 ∧ 1 ≤ most ∧ most ≤ 6 ∧
  ∀ (H' : Hp) (t : Addr) (l' : List V) (rs : List Str), But p H H' → H' p = some (.lst l') → PurseL (n + 20) l' → H t = none → H' t = some (.tup (rs.map V.str)) → Good ns rs → 1 ≤ rs.length → rs.length ≤ 6 → Q (.ref t) H'
theorem sc_drawn : FnScope ["_law_purse_here", "_law_names_here", "_law_most", "_law_some", "_law_name"] ["_law_purse_here", "_law_names_here", "_law_most"] (defScope sDrawn) := ⟨rfl, rfl, rfl, by decide +kernel, rfl, by decide +kernel, by decide +kernel⟩
theorem ok_drawn {f fS fD fC : Addr} {fd fdS fdD fdC : FuncData} (G : Fun K "_law_drawn_clause" "_law_drawn_clause" sDrawn f fd) (hlen : mg "len" = none) (hmin : mg "min" = none) (mS : mg "_law_shuffled" = some (.ref fS)) (kS : PySem.W.keepIn K (.ref fS) = true) (OS : FnOk P w K mg base CX0 3 fS fdS ["_law_purse_here", "_law_some"] (spShuf K)) (bS : Binds K fdS ["_law_purse_here", "_law_some"] []) (mD : mg "_law_draw" = some (.ref fD)) (kD : PySem.W.keepIn K (.ref fD) = true) (OD : FnOk P w K mg base CX0 2 fD fdD ["_law_purse_here", "_law_many"] spDraw) (bD : Binds K fdD ["_law_purse_here", "_law_many"] []) (mC : mg "_law_clause" = some (.ref fC)) (kC : PySem.W.keepIn K (.ref fC) = true) (OC : FnOk P w K mg base CX0 1 fC fdC ["_law_literals"] (spLCl K)) (bC : Binds K fdC ["_law_literals"] []) : FnOk P w K mg base CX0 4 f fd ["_law_purse_here", "_law_names_here", "_law_most"] (spDrawn K) := by
  have sc := sc_drawn
  refine G.ok sc (fun vs H Q E h => ?_) (fun cdv A outer s H vs Q E hr h => ?_)
  · obtain ⟨_, _, _, _, _, _, rfl, _⟩ := h
    rfl
  · obtain ⟨p, q, n, most, l, ns, rfl, hp, hl, hn, hS, nqp, nd, lo, h1, h6, m1, m6, k⟩ := h
    have big : (100000 : Nat) < sizeLine := by decide
    have hr2 : Room 2 _ := hr.mono (by decide)
    have hr1 : Room 1 _ := hr.mono (by decide)
    refine ⟨_, pss_cons (ps_set (i := 3) sc.nd rfl (Or.inl rfl) (pe_slice sl_list (pe_call OS hr rfl mS kS bS .nil pass0 (pa_cons (pv 0) (pa_cons (pv 1) pa_nil))) po_none
        (po_some (pe_op op_add pe_int (pe_call OD hr2 rfl mD kD bD .nil pass0 (pa_cons (pv 0) (pa_cons (pe_callB (call_min2 rfl) (by rfl) hmin boot_min (pa_cons (pv 2) (pa_cons (pe_callB call_len_seq (by rfl) hlen boot_len (pa_cons (pv 1) pa_nil)) pa_nil))) pa_nil)))))))
      (pss_one (ps_ret (pe_call OC hr1 rfl mC kC bC .nil pass0 (pa_cons (pe_lc (own := [("_law_name", 4)]) (g := gName 4) (tt := tYes) rfl sc.nd (pi_list (pv 3))
        (blkOk_by (N := ["_law_purse_here", "_law_names_here", "_law_most", "_law_some", "_law_name"]) (sc := defScope sDrawn) (by decide +kernel)) (fun _ _ _ _ _ => pg_name (i := 4) sc.nd rfl (Or.inl rfl)) (fun _ _ _ _ _ => pts_nil)
        (fun _ _ _ _ _ => pe_ifExp (pt_cmpR op_eq (pe_call OD hr2 rfl mD kD bD .nil pass0 (pa_cons (pv 0) (pa_cons pe_int pa_nil))) pe_int (nomark _)) (pv 4) (pe_op op_add_str pe_str (pv 4)))) pa_nil)))), ?_⟩
    refine ⟨_, rfl, _, rfl, p, q, n, l, ns.map V.str, rfl, hp, hl, by omega, hS, nqp, by rw [List.length_map]; omega, fun H1 r l1 ys bu1 hp1 hl1 nr hys pm => ?_⟩
    have nrp : r ≠ p := fun z => by
      rw [z, hp] at nr
      cases nr
    refine ⟨_, rfl, _, rfl, _, rfl, q, _, rfl, .inl (bu1.sqL hS nqp), ?_⟩
    refine ⟨_, _, rfl, ?_⟩
    rw [List.length_map] at hl1 ⊢
    obtain ⟨M, eM, M1, M6⟩ : ∃ M : Int, (if ((ns.length : Nat) : Int) < most then ((ns.length : Nat) : Int) else most) = M ∧ 1 ≤ M ∧ M ≤ 6 := by
      refine ⟨_, rfl, ?_, ?_⟩ <;> split <;> omega
    rw [eM]
    refine ⟨p, M, _, l1, rfl, hp1, hl1, by omega, by omega, by omega, fun l2 d hl2 d0 d1 => ?_⟩
    refine ⟨_, _, rfl, rfl, ?_⟩
    refine ⟨_, rfl, r, _, rfl, SqL.of ((upd_ne nrp).trans hys), fun c nc => ?_⟩
    rw [cutV_take _ _ (by omega)]
    obtain ⟨zs, rfl⟩ : ∃ zs : List Str, ys = zs.map V.str := by
      refine ⟨strsV ys, ?_⟩
      have go : ∀ l : List V, (∀ x ∈ l, ∃ z, x = V.str z) → l = (strsV l).map V.str := by
        intro l
        induction l with
        | nil => intro _; rfl
        | cons x l ih =>
          intro h
          obtain ⟨z, rfl⟩ := h x (List.mem_cons_self ..)
          have e := ih fun y hy => h y (List.mem_cons_of_mem _ hy)
          show V.str z :: l = V.str z :: (strsV l).map V.str
          rw [← e]
      exact go ys fun x hx => by
        obtain ⟨z, _, e⟩ := List.mem_map.mp (pm.mem_iff.mp hx)
        exact ⟨z, e.symm⟩
    have pz : zs.Perm ns := by
      have e := pm.map (fun | V.str z => z | _ => Str.empty)
      rw [List.map_map, List.map_map] at e
      have i1 : ∀ l : List Str, l.map ((fun | V.str z => z | _ => Str.empty) ∘ V.str) = l := fun l => by
        induction l with
        | nil => rfl
        | cons x l ih => rw [List.map_cons, ih]; rfl
      rw [i1, i1] at e
      exact e
    rw [← List.map_take]
    have lz : zs.length = ns.length := pz.length_eq
    have ls : (zs.take (1 + d).toNat).length = min (1 + d).toNat ns.length := by rw [List.length_take, lz]
    have nds : (zs.take (1 + d).toNat).Nodup := ((pz.nodup_iff).mpr nd).sublist (List.take_sublist ..)
    have subs : ∀ s ∈ zs.take (1 + d).toNat, s ∈ ns := fun s hs => pz.mem_iff.mp (List.mem_of_mem_take hs)
    generalize zs.take (1 + d).toNat = ss at ls nds subs
    have l6 : ss.length ≤ 6 := by omega
    have l1' : 1 ≤ ss.length := by omega
    have ncp : c ≠ p := fun z => by
      rw [z, upd_same] at nc
      cases nc
    have nc1 : H1 c = none := by
      rw [upd_ne ncp] at nc
      exact nc
    have bu2 : But p H (upd (upd H1 p (.lst l2)) c (.lst (ss.map V.str))) := fun b o e ne => by
      have e1 := bu1 b o e ne
      rw [upd_ne (ne_of_none e1 nc1), upd_ne ne]
      exact e1
    have hp2 : upd (upd H1 p (.lst l2)) c (.lst (ss.map V.str)) p = some (.lst l2) := (upd_ne (Ne.symm ncp)).trans upd_same
    refine ⟨_, rfl, c, rfl, ⟨_, SqL.of upd_same⟩, fun D nD => ?_⟩
    have nDp : D ≠ p := fun z => by
      rw [z, hp2] at nD
      cases nD
    have hc0 : upd (upd H1 p (.lst l2)) c (.lst (ss.map V.str)) c = some (.lst (ss.map V.str)) := upd_same
    generalize upd (upd H1 p (.lst l2)) c (.lst (ss.map V.str)) = Hb at bu2 hp2 nD hc0
    refine lc_list (K := K) (a := c) (xs := ss.map V.str) (fun i Hc => i ≤ ss.length ∧ ∃ (l3 : List V) (cs : List Str), But p Hb Hc ∧ Hc p = some (.lst l3) ∧ PurseL (n + ns.length + 1 + (i : Int)) l3 ∧ Hc D = some (.lst (cs.map V.str)) ∧ Sgs cs (ss.take i)) ?_ ?_ ?_ ?_
    · exact ⟨Nat.zero_le _, l2, [], .of (same_new nD), (upd_ne (Ne.symm nDp)).trans hp2, by simpa using hl2, upd_same, .nil⟩
    · rintro i Hc hi ⟨_, l3, cs, bu3, _⟩
      exact SqL.of (bu3 _ _ hc0 ncp)
    · rintro i x Hc hx ⟨hi, l3, cs, bu3, hp3, hl3, hD, sg⟩
      have hi2 : i < ss.length := by
        have := (List.getElem?_eq_some_iff.mp hx).1
        rw [List.length_map] at this
        exact this
      rw [List.getElem?_map, List.getElem?_eq_getElem hi2] at hx
      cases hx
      have lcs : cs.length = i := by
        rw [sg.len, List.length_take]
        omega
      have lows : lowZ ss[i] = true := List.all_eq_true.mp lo _ (subs _ (List.getElem_mem hi2))
      have next : ∀ (l4 : List V) (cc : Str), PurseL (n + ns.length + 1 + (i : Int) + 1) l4 → Sg cc ss[i] → ∃ acc, upd Hc p (.lst l4) D = some (.lst acc) ∧ acc.length < sizeLine ∧ (i + 1 ≤ ss.length ∧ ∃ (l3 : List V) (cs : List Str), But p Hb (upd (upd Hc p (.lst l4)) D (.lst (acc ++ [V.str cc]))) ∧
          upd (upd Hc p (.lst l4)) D (.lst (acc ++ [V.str cc])) p = some (.lst l3) ∧ PurseL (n + ns.length + 1 + ((i + 1 : Nat) : Int)) l3 ∧ upd (upd Hc p (.lst l4)) D (.lst (acc ++ [V.str cc])) D = some (.lst (cs.map V.str)) ∧ Sgs cs (ss.take (i + 1))) := fun l4 cc h4 hs => by
        refine ⟨cs.map V.str, (upd_ne nDp).trans hD, by rw [List.length_map]; omega, hi2, l4, cs ++ [cc], fun b o e ne => ?_, (upd_ne (Ne.symm nDp)).trans upd_same, ?_, by rw [upd_same, List.map_append]; rfl, ?_⟩
        · rw [upd_ne (ne_of_none e nD), upd_ne ne]
          exact bu3 b o e ne
        · have e : n + ns.length + 1 + ((i + 1 : Nat) : Int) = n + ns.length + 1 + (i : Int) + 1 := by omega
          rw [e]
          exact h4
        · rw [List.take_add_one, List.getElem?_eq_getElem hi2]
          exact sg.snoc hs
      walk_at "go"
      refine ⟨p, 2, _, l3, rfl, hp3, hl3, by omega, by decide, by decide, fun l4 r4 h4 r0 r1 => ?_⟩
      refine ⟨rfl, _, rfl, ?_⟩
      refine ite2 (fun z => ?_) (fun z => ?_)
      · exact ⟨_, rfl, next l4 _ h4 (.inl rfl)⟩
      · refine ⟨_, rfl, dash, ss[i], rfl, rfl, ?_, next l4 _ h4 (.inr rfl)⟩
        have := (low_parts lows).2.1
        show 1 + ss[i].length ≤ sizeLine
        omega
    · rintro Hc ⟨_, l3, cs, bu3, hp3, hl3, hD, sg⟩
      rw [List.length_map, List.take_length] at sg
      rw [List.length_map] at hl3
      dsimp only [tNil]
      refine ⟨D, cs, rfl, .inl (SqL.of hD), by rw [sg.len]; omega, fun H5 t rs s5 nt ht io => ?_⟩
      obtain ⟨good, len⟩ := good_of sg nds subs lo io
      refine k H5 t l3 rs (fun b o e ne => s5 b o (bu3 b o (bu2 b o e ne) ne)) (s5 _ _ hp3) (hl3.mono (by omega)) ?_ ht good (by omega) (by omega)
      cases e : H t with
      | none => rfl
      | some o =>
        by_cases z : t = p
        · rw [z, hp3] at nt
          cases nt
        · rw [bu3 t o (bu2 t o e z) z] at nt
          cases nt
end
end My
end

section
set_option Elab.async false
set_option linter.all false
set_option maxRecDepth 100000
set_option maxHeartbeats 4000000
namespace MyT
open PySem PySem.Spec PyProof.Rows L2
def signsV (z : Str) : List V := z.cps.toList.map fun c => V.str ⟨#[c]⟩
section
variable {X : Cx}
/-- s * n -/
theorem op_mulS : OpR X (binaryOp .Mult) (fun x y H Q => ∃ (z : Str) (n : Int), x = .str z ∧ y = .int n ∧ MulOk z n ∧ Q (.str (Txt.mul z n)) H) := by
  intro pins s σ H x y v u Q I rx ry h
  obtain ⟨z, n, rfl, rfl, ok, q⟩ := h
  obtain ⟨t, rfl⟩ := rx
  obtain ⟨t2, rfl⟩ := ry
  exact SB.mul ok fun t' k => ⟨.str _, H, I.tok _, ⟨_, rfl⟩, q⟩
theorem signs_vals {z : Str} : ∀ {us : List Value} {cs : List Nat}, us.length = cs.length → (∀ (j : Nat) (v : Value), us[j]? = some v → ∃ c t, cs[j]? = some c ∧ v = Value.str ⟨#[c]⟩ t) → Vals (cs.map fun c => V.str ⟨#[c]⟩) us
  | [], [], _, _ => .nil
  | u :: us, c :: cs, hl, h => by
    obtain ⟨c2, t, e1, e2⟩ := h 0 u rfl
    have e3 : c = c2 := Option.some.inj e1
    subst e3
    exact .cons ⟨t, e2⟩ (signs_vals (z := z) (by simpa using hl) fun j v e => h (j + 1) v e)
/-- list(s) -/
theorem call_listS (hcalm : X.calm = true) : CallR X (.type "list") (fun xs H Q => ∃ z, xs = [.str z] ∧ z.length ≤ sizeLine ∧ ∀ p, H p = none → Q (.ref p) (upd H p (.lst (signsV z)))) := by
  intro pins s σ H xs us Q I r q
  obtain ⟨z, rfl, hz, q⟩ := q
  obtain ⟨u, rfl, t, rfl⟩ := vals1 r
  refine call_list_str (I.ok.hd hcalm) z t (hn := hz) fun h' tk acc c' hk hS hacc => ?_
  have hv : Vals (signsV z) acc.toList := signs_vals (z := z) (by rw [Array.length_toList, Array.length_toList]; exact hacc.1) fun j v e => by
    obtain ⟨c, t2, hc, e2⟩ := hacc.2 j v (by rw [← Array.getElem?_toList]; exact e)
    exact ⟨c, t2, by rw [Array.getElem?_toList]; exact hc, e2⟩
  have hl : (signsV z).length ≤ sizeLine := by
    unfold signsV
    rw [List.length_map, Array.length_toList]
    exact hz
  exact ⟨.ref s.heap.objs.size, _, I.laid (t' := tk) hk (Nat.le_refl _) (show ObjOk X.prog X.w _ _ _ (.lst (signsV z)) from ⟨hl, acc.toList, c', hv, by rw [Array.toArray_toList]; exact hS⟩), rfl, q _ (I.hok.fresh (Nat.le_refl _))⟩
end
end MyT
end

section
set_option Elab.async false
set_option linter.all false
set_option maxRecDepth 100000
set_option maxHeartbeats 4000000
namespace My
local macro_rules | `(tactic| walk_at "go") => `(tactic| (repeat (first
  | (refine ⟨_, rfl, ?_⟩)
  | (refine ⟨_, _, rfl, rfl, ?_⟩)
  | (refine ⟨_, _, rfl, ?_⟩)
  | (refine ⟨rfl, ?_⟩)
  | (refine Or.inl ⟨_, rfl, ?_⟩)
  | (refine ⟨_, _, _, _, rfl, rfl, L2.SqL.of (by first | assumption | exact L2.upd_same), rfl, ?_⟩)
  | (refine ⟨_, _, _, _, rfl, rfl, (by first | assumption | exact L2.upd_same), rfl, ?_⟩)
  | (refine And.intro (by first | omega | decide | (unfold L2.CPow; decide) | (unfold L2.CMul; omega) | (unfold L2.CDiv; omega)) ?_))))
open PySem PySem.Spec PyProof.Rows L2 TL MyF MyS MyW MyT RZ
section
variable {P : Program} {w : World} {K : PySem.W.Frag} {mg : Str → Option Value} {base : Heap}
/-! ### _law_spare -/
def octS (c : Nat) : Str := Txt.mul ⟨#[c]⟩ 8
def spareS (ns : List Str) : List Str := (abc.map octS).filter fun y => !decide (y ∈ ns)
theorem oct_low : ∀ c ∈ abc, lowZ (octS c) = true := by decide +kernel
theorem oct_nodup : (abc.map octS).Nodup := by decide +kernel
theorem oct_ok : ∀ c, MulOk ⟨#[c]⟩ 8 := fun c => ⟨by decide, fun _ _ => by
  show ¬ ((1 : Int) > _)
  decide, fun _ _ => by
  rfl⟩
def spSpare (K : PySem.W.Frag) : Sp := fun vs H Q _ => ∃ (q : Addr) (ns : List Str), vs = [.ref q] ∧ SqL K H q (ns.map V.str) ∧ ∀ (H' : Hp) (r : Addr), Same H H' → H r = none → H' r = some (.lst ((spareS ns).map V.str)) → Q (.ref r) H'
end
end My
end

section
set_option Elab.async false
set_option linter.all false
set_option maxRecDepth 100000
set_option maxHeartbeats 4000000
namespace My
local macro_rules | `(tactic| walk_at "go") => `(tactic| (repeat (first
  | (refine ⟨_, rfl, ?_⟩)
  | (refine ⟨_, _, rfl, rfl, ?_⟩)
  | (refine ⟨_, _, rfl, ?_⟩)
  | (refine ⟨rfl, ?_⟩)
  | (refine Or.inl ⟨_, rfl, ?_⟩)
  | (refine ⟨_, _, _, _, rfl, rfl, L2.SqL.of (by first | assumption | exact L2.upd_same), rfl, ?_⟩)
  | (refine ⟨_, _, _, _, rfl, rfl, (by first | assumption | exact L2.upd_same), rfl, ?_⟩)
  | (refine And.intro (by first | omega | decide | (unfold L2.CPow; decide) | (unfold L2.CMul; omega) | (unfold L2.CDiv; omega)) ?_))))
open PySem PySem.Spec PyProof.Rows L2 TL MyF MyS MyW MyT RZ
theorem abc_all : ∀ d : Fin 26, (97 + d.val) ∈ abc := by decide +kernel
theorem low_of {z : Str} (h1 : 1 ≤ z.length) (h8 : z.length ≤ 8) (h : ∀ c ∈ z.cps.toList, 97 ≤ c ∧ c ≤ 122) : lowZ z = true := by
  unfold lowZ
  rw [decide_eq_true h1, decide_eq_true h8, Bool.true_and, Bool.true_and]
  refine List.all_eq_true.mpr fun c hc => decide_eq_true ?_
  obtain ⟨a, b⟩ := h c hc
  have q := abc_all ⟨c - 97, by omega⟩
  have e : 97 + (c - 97) = c := by omega
  rw [← e]
  exact q
theorem Low.z {z : Str} (h : Low z) : lowZ z = true := low_of h.2.1 h.1 h.2.2
theorem cut_to (z : Str) (j : Nat) (h : j ≤ z.length) : (cutS z none (some (j : Int))).cps.toList = z.cps.toList.take j := by
  show ((z.cps.toList.drop (HT.sIx z.length 0 none)).take (HT.sIx z.length z.length (some ((j : Nat) : Int)) - HT.sIx z.length 0 none)).toArray.toList = _
  rw [HT.sIx_nat, HT.sIx_none, List.drop_zero, Nat.sub_zero, Nat.min_eq_left h, List.toList_toArray]
theorem cut_from (z : Str) (j : Nat) (h : j ≤ z.length) : (cutS z (some (j : Int)) none).cps.toList = z.cps.toList.drop j := by
  show ((z.cps.toList.drop (HT.sIx z.length 0 (some ((j : Nat) : Int)))).take (HT.sIx z.length z.length none - HT.sIx z.length 0 (some ((j : Nat) : Int)))).toArray.toList = _
  rw [HT.sIx_nat, HT.sIx_none, Nat.min_eq_left h, List.toList_toArray, List.take_of_length_le]
  rw [List.length_drop, Array.length_toList]
  exact Nat.le_refl _
theorem len_cps (z : Str) : z.length = z.cps.toList.length := Array.length_toList.symm
theorem near_low {b : Str} (lb : lowZ b = true) {j c : Nat} (hj : j < b.length) (hc : 97 ≤ c ∧ c ≤ 122) : lowZ (cutS b none (some (j : Int)) ++ ⟨#[c]⟩ ++ cutS b (some ((j : Int) + 1)) none) = true := by
  obtain ⟨h1, h8, hr⟩ := low_parts lb
  have e1 : ((j : Int) + 1) = ((j + 1 : Nat) : Int) := by omega
  rw [e1]
  have e : (cutS b none (some (j : Int)) ++ ⟨#[c]⟩ ++ cutS b (some ((j + 1 : Nat) : Int)) none).cps.toList = b.cps.toList.take j ++ [c] ++ b.cps.toList.drop (j + 1) := by
    rw [cps_cat, cps_cat, cut_to b j (by omega), cut_from b (j + 1) (by omega)]
  have el : (cutS b none (some (j : Int)) ++ ⟨#[c]⟩ ++ cutS b (some ((j + 1 : Nat) : Int)) none).length = b.length := by
    rw [len_cps, e, List.length_append, List.length_append, List.length_take, List.length_drop, List.length_singleton, ← len_cps]
    omega
  refine low_of (by rw [el]; exact h1) (by rw [el]; exact h8) fun x hx => ?_
  rw [e] at hx
  rcases List.mem_append.mp hx with hx | hx
  · rcases List.mem_append.mp hx with hx | hx
    · exact hr x (List.mem_of_mem_take hx)
    · rw [List.mem_singleton] at hx
      rw [hx]
      exact hc
  · exact hr x (List.mem_of_mem_drop hx)
def oneS (c : Nat) : Str := ⟨#[c]⟩
theorem one_low : ∀ c ∈ abc, lowZ (oneS c) = true := by decide +kernel
theorem one_nodup : (abc.map oneS).Nodup := by decide +kernel
theorem abc_len : (abc.map oneS).length = 26 := by decide +kernel
/-- a letter that is not among few words -/
theorem free_letter {fs : List Str} (h : fs.length < 26) : ∃ y r, (abc.map oneS).filter (fun y => !decide (y ∈ fs)) = y :: r ∧ lowZ y = true ∧ y ∉ fs := by
  cases e : (abc.map oneS).filter (fun y => !decide (y ∈ fs)) with
  | nil =>
    exfalso
    have sub : ∀ y, y ∈ abc.map oneS → y ∈ fs := fun y hy => by
      by_cases c : y ∈ fs
      · exact c
      · have m : y ∈ (abc.map oneS).filter (fun y => !decide (y ∈ fs)) := List.mem_filter.mpr ⟨hy, by rw [decide_eq_false c]; rfl⟩
        rw [e] at m
        cases m
    have := (perm_of_sub one_nodup sub (by rw [abc_len]; omega)).length_eq
    rw [abc_len] at this
    omega
  | cons y r =>
    have m : y ∈ (abc.map oneS).filter (fun y => !decide (y ∈ fs)) := by
      rw [e]
      exact List.mem_cons_self ..
    obtain ⟨m1, m2⟩ := List.mem_filter.mp m
    refine ⟨y, r, rfl, ?_, fun c => ?_⟩
    · obtain ⟨c, hc, rfl⟩ := List.mem_map.mp m1
      exact one_low c hc
    · rw [decide_eq_true c] at m2
      cases m2
section
variable {P : Program} {w : World} {K : PySem.W.Frag} {mg : Str → Option Value} {base : Heap}
/-! ### _law_words -/
abbrev sWords : Stmt := top 47
def spWords : Sp := fun vs H Q _ => ∃ (p : Addr) (n m : Int) (l : List V), vs = [.ref p, .int m] ∧ H p = some (.lst l) ∧ PurseL n l ∧ n ≤ 800000 ∧ 0 ≤ m ∧ m ≤ 6 ∧
  ∀ (H' : Hp) (r : Addr) (l' : List V) (ns : List Str), But p H H' → H' p = some (.lst l') → PurseL (n + 200) l' → H r = none → H' r = some (.lst (ns.map V.str)) → ns.Nodup → ns.all lowZ = true → (ns.length : Int) = m → Q (.ref r) H'
def Nw : List Str := ["_law_purse_here", "_law_many", "_law_base", "_law_near", "_law_spot", "_law_found", "_law_spin", "_law_word_here", "_law_letter"]
theorem sc_words : FnScope ["_law_purse_here", "_law_many", "_law_base", "_law_near", "_law_spot", "_law_found", "_law_spin", "_law_word_here", "_law_letter"] ["_law_purse_here", "_law_many"] (defScope sWords) := ⟨rfl, rfl, rfl, by decide +kernel, rfl, by decide +kernel, by decide +kernel⟩
theorem ok_words {f fD fW : Addr} {fd fdD fdW : FuncData} (G : Fun K "_law_words" "_law_words" sWords f fd) (hlen : mg "len" = none) (hrange : mg "range" = none) (hlist : mg "list" = none) (mD : mg "_law_draw" = some (.ref fD)) (kD : PySem.W.keepIn K (.ref fD) = true) (OD : FnOk P w K mg base CX0 2 fD fdD ["_law_purse_here", "_law_many"] spDraw) (bD : Binds K fdD ["_law_purse_here", "_law_many"] []) (mW : mg "_law_word" = some (.ref fW)) (kW : PySem.W.keepIn K (.ref fW) = true) (OW : FnOk P w K mg base CX0 4 fW fdW ["_law_purse_here"] spWord) (bW : Binds K fdW ["_law_purse_here"] []) : FnOk P w K mg base CX0 5 f fd ["_law_purse_here", "_law_many"] spWords := by
  have sc := sc_words
  refine G.ok sc (fun vs H Q E h => ?_) (fun cdv A outer s H vs Q E hr h => ?_)
  · obtain ⟨_, _, _, _, rfl, _⟩ := h
    rfl
  · obtain ⟨p, n, m, l, rfl, hp, hl, hn, m0, m6, k⟩ := h
    have big : (100000 : Nat) < sizeLine := by decide
    have hr2 : Room 2 _ := hr.mono (by decide)
    have hr4 : Room 4 _ := hr.mono (by decide)
    refine ⟨_, pss_cons (ps_par (i := 2) (j := 3) (by rfl) sc.nd rfl rfl (by decide) rfl rfl (pa_cons (pe_call OW hr4 rfl mW kW bW .nil pass0 (pa_cons (pv 0) pa_nil)) (pa_cons (pe_cmpR op_eq (pe_call OD hr2 rfl mD kD bD .nil pass0 (pa_cons (pv 0) (pa_cons pe_int pa_nil))) pe_int (nomark _)) pa_nil)) (by rfl))
      (pss_cons (ps_asg (pe_tup (pa_cons (pe_call OD hr2 rfl mD kD bD .nil pass0 (pa_cons (pv 0) (pa_cons (pe_callB call_len_str (by rfl) hlen boot_len (pa_cons (pv 2) pa_nil)) pa_nil))) (pa_cons (pe_lst pa_nil) pa_nil))) (pg_tup rfl (pgs_cons (pg_name (i := 4) sc.nd rfl (Or.inl rfl)) (pgs_cons (pg_name (i := 5) sc.nd rfl (Or.inr rfl)) pgs_nil))))
      (pss_cons (ps_for PassesOwn.never rfl (pi_range1 rfl hrange (pa_cons (pv 1) pa_nil)) (pg_name (i := 6) sc.nd rfl (Or.inl rfl))
        (pss_cons (ps_set (i := 7) sc.nd rfl (Or.inl rfl) (pe_op op_add_str (pe_op op_add_str (pe_slice sl_str (pv 2) po_none (po_some (pv 4))) (pe_ix ix_str pe_str (pe_call OD hr2 rfl mD kD bD .nil pass0 (pa_cons (pv 0) (pa_cons pe_int pa_nil))) (fun _ _ => rfl))) (pe_slice sl_str (pv 2) (po_some (pe_op op_add (pv 4) pe_int)) po_none)))
        (pss_cons (ps_if (pt_not (pt_val (pv 3))) (pss_one (ps_set (i := 7) sc.nd rfl (Or.inl rfl) (pe_call OW hr4 rfl mW kW bW .nil pass0 (pa_cons (pv 0) pa_nil)))) pss_nil)
        (pss_cons (ps_if (pt_cmpR op_in_seq (pv 7) (pv 5) (by rfl)) (pss_one (ps_set (i := 7) sc.nd rfl (Or.inl rfl) (pe_ix ix_list (pe_lc (own := [("_law_letter", 8)]) (g := gName 8) (tt := tTest (tOp (rIn K true) (tVar 8) (tVar 5))) rfl sc.nd (pi_list (pe_callTy (call_listS rfl) (by rfl) hlist boot_list (pa_cons pe_str pa_nil)))
            (blkOk_by (N := ["_law_purse_here", "_law_many", "_law_base", "_law_near", "_law_spot", "_law_found", "_law_spin", "_law_word_here", "_law_letter"]) (sc := defScope sWords) (by decide +kernel)) (fun _ _ _ _ _ => pg_name (i := 8) sc.nd rfl (Or.inl rfl)) (fun _ _ _ _ _ => pts_one (pt_cmpR op_notIn_seq (pv 8) (pv 5) (by rfl)))
            (fun _ _ _ _ _ => pv 8)) pe_int (fun _ _ => rfl)))) pss_nil)
        (pss_one (ps_expr (pe_bm PySem.F.plainAttrs_list PySem.F.slot_list_append PySem.F.type_list_append mt_append (pv 5) (pa_cons (pv 7) pa_nil))))))))
      (pss_one (ps_ret (pv 5))))), ?_⟩
    refine ⟨_, rfl, p, n, l, rfl, hp, hl, by omega, fun H1 l1 b bu1 hp1 hl1 lb => ?_⟩
    refine ⟨_, rfl, p, 3, _, l1, rfl, hp1, hl1, by omega, by decide, by decide, fun l2 r2 hl2 r20 r21 => ?_⟩
    refine ⟨rfl, _, _, rfl, ?_⟩
    have lbz := lb.z
    obtain ⟨b1, b8, _⟩ := low_parts lbz
    refine ⟨_, rfl, _, rfl, b, rfl, by omega, ?_⟩
    refine ⟨p, _, _, l2, rfl, upd_same, hl2, by omega, by omega, by omega, fun l3 sp hl3 sp0 sp1 => ?_⟩
    rw [upd_upd]
    refine ⟨Nat.zero_le _, fun D nD => ?_⟩
    refine ⟨(by show 2 ≤ sizeLine; decide), fun T nT => ?_⟩
    refine ⟨T, [_, _], rfl, SqT.of upd_same, rfl, _, [_], rfl, _, [], rfl, rfl, ?_⟩
    generalize decide (V.int r2 = V.int 0) = nearB
    have nDp : D ≠ p := fun z => by
      rw [z, upd_same] at nD
      cases nD
    have nTD : T ≠ D := fun z => by
      rw [z, upd_same] at nT
      cases nT
    have nTp : T ≠ p := fun z => by
      rw [z, upd_ne (Ne.symm nDp), upd_same] at nT
      cases nT
    have nD1 : H1 D = none := by
      rw [upd_ne nDp] at nD
      exact nD
    have nT1 : H1 T = none := by
      rw [upd_ne nTD, upd_ne nTp] at nT
      exact nT
    have nDH : H D = none := by
      cases e : H D with
      | none => rfl
      | some o =>
        rw [bu1 D o e nDp] at nD1
        cases nD1
    have buH : But p H (upd (upd (upd H1 p (.lst l3)) D (.lst [])) T (.tup [.int sp, .ref D])) := fun c o e ne => by
      have e1 := bu1 c o e ne
      rw [upd_ne (ne_of_none e1 nT1), upd_ne (ne_of_none e1 nD1), upd_ne ne]
      exact e1
    have hDb0 : upd (upd (upd H1 p (.lst l3)) D (.lst [])) T (.tup [.int sp, .ref D]) D = some (.lst []) := (upd_ne (Ne.symm nTD)).trans upd_same
    have hpb : upd (upd (upd H1 p (.lst l3)) D (.lst [])) T (.tup [.int sp, .ref D]) p = some (.lst l3) := (upd_ne (Ne.symm nTp)).trans ((upd_ne (Ne.symm nDp)).trans upd_same)
    generalize upd (upd (upd H1 p (.lst l3)) D (.lst [])) T (.tup [.int sp, .ref D]) = H2 at buH hDb0 hpb
    obtain ⟨j, rfl⟩ : ∃ j : Nat, sp = (j : Int) := ⟨sp.toNat, by omega⟩
    have hj : j < b.length := by omega
    refine ⟨_, rfl, m, rfl, by omega, by omega, ?_⟩
    refine for_range (lo := 0) (n := m.toNat) (fun i σ Hc => i ≤ m.toNat ∧ ∃ (l4 : List V) (fs : List Str) (v6 v7 : Option V), σ = [some (.ref p), some (.int m), some (.str b), some (.bl nearB), some (.int (j : Int)), some (.ref D), v6, v7, none] ∧
      (∀ c o, H c = some o → c ≠ p → Hc c = some o) ∧ Hc p = some (.lst l4) ∧ PurseL (n + 12 + 11 * (i : Int)) l4 ∧ Hc D = some (.lst (fs.map V.str)) ∧ fs.length = i ∧ fs.Nodup ∧ fs.all lowZ = true) ?_ ?_ ?_
    · exact ⟨Nat.zero_le _, l3, [], none, none, rfl, buH, hpb, hl3.mono (by omega), hDb0, rfl, List.nodup_nil, rfl⟩
    · rintro i σ Hc hi ⟨_, l4, fs, v6, v7, rfl, bu, hp4, hl4, hD, lfs, nfs, lows⟩
      refine ⟨_, rfl, _, rfl, _, rfl, b, rfl, by omega, ?_⟩
      refine ⟨_, rfl, p, 26, _, l4, rfl, hp4, hl4, by omega, by decide, by decide, fun l5 r5 hl5 r50 r51 => ?_⟩
      obtain ⟨d, rfl⟩ : ∃ d : Nat, r5 = (d : Int) := ⟨r5.toNat, by omega⟩
      have h26 : d < 26 := by omega
      have hd : d < abc.length := Nat.lt_of_lt_of_eq h26 (by decide +kernel)
      refine ⟨_, (d : Int), abc[d], rfl, rfl, by decide, atI_nat (List.getElem?_eq_getElem hd), ?_⟩
      have lw1 := near_low lbz hj (abc_range _ (List.getElem_mem hd))
      have c1 : (cutS b none (some (j : Int))).length ≤ 8 := by
        rw [len_cps, cut_to b j (by omega), List.length_take]
        omega
      have c2 : (cutS b (some ((j : Int) + 1)) none).length ≤ 8 := by
        have e1 : ((j : Int) + 1) = ((j + 1 : Nat) : Int) := by omega
        rw [len_cps, e1, cut_from b (j + 1) (by omega), List.length_drop, ← len_cps]
        omega
      have c3 : (cutS b none (some (j : Int)) ++ (⟨#[abc[d]]⟩ : Str)).length ≤ 9 := by
        rw [len_cps, cps_cat, List.length_append, ← len_cps]
        show _ + 1 ≤ 9
        omega
      refine ⟨_, _, rfl, rfl, ?_, ?_⟩
      · show _ + 1 ≤ sizeLine
        omega
      refine ⟨_, rfl, _, rfl, _, _, rfl, rfl, _, rfl, b, rfl, by omega, ?_⟩
      refine ⟨_, _, rfl, rfl, by omega, ?_⟩
      refine ⟨_, rfl, _, rfl, ?_⟩
      refine ite2 (fun z => ?_) (fun z => ?_)
      · refine ⟨_, rfl, p, _, l5, rfl, upd_same, hl5, by omega, fun H5 lZ wd bu6 hp5 hl6 lwdd => ?_⟩
        have lwd := lwdd.z
        have bu5 : But p Hc H5 := fun c o e ne => bu6 c o ((upd_ne ne).trans e) ne
        have hD5 := bu5 D _ hD nDp
        have hl5z := hl6.mono (show n + 12 + 11 * (i : Int) + 1 + 10 ≤ n + 12 + 11 * (i : Int) + 11 by omega)
        refine ⟨_, rfl, _, rfl, D, _, rfl, .inl (SqL.of hD5), rfl, flat_strs fs, ?_⟩
        refine ⟨_, rfl, ?_⟩
        rw [inV_strs]
        by_cases c : wd ∈ fs
        · rw [decide_eq_true c]
          refine iteT ?_
          refine ⟨_, rfl, by decide +kernel, fun r nr => ?_⟩
          refine ⟨r, rfl, ⟨_, SqL.of upd_same⟩, fun D2 nD2 => ?_⟩
          have s6 := same_new (o := .lst (signsV "abcdefghijklmnopqrstuvwxyz")) nr
          refine lstD (xs := abc.map fun c => V.str ⟨#[c]⟩) (fun x => match x with | .str z => (if (!decide (z ∈ fs)) = true then some (.str z) else none) | _ => none) (SqL.of upd_same) (by decide +kernel) nD2 (fun x H7 Ψ Θ hx s7 yes no => ?_) (fun H7 s7 h7 => ?_)
          · obtain ⟨c7, hc7, rfl⟩ := List.mem_map.mp hx
            walk_at "go"
            refine ⟨D, _, rfl, .inl (SqL.of (s7 _ _ (s6 _ _ hD5))), rfl, flat_strs fs, ?_⟩
            refine ⟨_, rfl, ?_⟩
            have e0 : (if true = true then !inV (V.str (oneS c7)) (fs.map V.str) else inV (V.str (oneS c7)) (fs.map V.str)) = !decide (oneS c7 ∈ fs) := by rw [if_pos rfl, inV_strs]
            show if (if true = true then !inV (V.str (oneS c7)) (fs.map V.str) else inV (V.str (oneS c7)) (fs.map V.str)) = true then _ else _
            rw [e0]
            by_cases z : (!decide (oneS c7 ∈ fs)) = true
            · have y := yes (.str (oneS c7)) H7 (if_pos z) (same_refl _)
              rw [z]
              exact iteT ⟨_, rfl, y⟩
            · have y := no H7 (if_neg z) (same_refl _)
              rw [Bool.eq_false_iff.mpr z]
              exact iteF y
          · obtain ⟨wX, rX, ef, lwX, nwX⟩ := free_letter (fs := fs) (by omega)
            have s67 := same_trans s6 s7
            have hDX := s67 _ _ hD5
            have hpX := s67 _ _ hp5
            have buX : But p Hc H7 := bu5.trans (.of s67)
            have h8 : H7 D2 = some (.lst ((wX :: rX).map V.str)) := by
              rw [h7, List.filterMap_map, ← ef, List.filter_map, List.map_map, ← filt_fm]
              rfl
            refine ⟨D2, _, _, .str wX, rfl, rfl, SqL.of h8, atI_nat (j := 0) rfl, ?_⟩
            refine ⟨_, rfl, .inl ⟨rfl, _, SqL.of hDX⟩, ?_⟩
            refine ⟨_, rfl, D, _, _, rfl, rfl, hDX, by rw [List.length_map]; omega, ?_⟩
            refine ⟨hi, lZ, fs ++ [wX], _, _, rfl, fun c o e ne => ?_, (upd_ne (Ne.symm nDp)).trans hpX, ?_, by rw [upd_same, List.map_append]; rfl, by rw [List.length_append, lfs]; rfl, ?_, ?_⟩
            · rw [upd_ne (fun z => by rw [z, nDH] at e; cases e)]
              exact buX c o (bu c o e ne) ne
            · have e : n + 12 + 11 * ((i + 1 : Nat) : Int) = n + 12 + 11 * (i : Int) + 11 := by omega
              rw [e]
              exact hl5z
            · exact List.nodup_append.mpr ⟨nfs, List.nodup_cons.mpr ⟨by simp, List.nodup_nil⟩, fun x hx y hy => by
                rw [List.mem_singleton] at hy
                rw [hy]
                exact fun z => nwX (z ▸ hx)⟩
            · rw [List.all_append, lows, Bool.true_and]
              show (lowZ wX && true) = true
              rw [lwX]
              rfl
        · rw [decide_eq_false c]
          refine iteF ?_
          refine ⟨_, rfl, .inl ⟨rfl, _, SqL.of hD5⟩, ?_⟩
          refine ⟨_, rfl, D, _, _, rfl, rfl, hD5, by rw [List.length_map]; omega, ?_⟩
          refine ⟨hi, lZ, fs ++ [wd], _, _, rfl, fun c2 o e ne => ?_, (upd_ne (Ne.symm nDp)).trans hp5, ?_, by rw [upd_same, List.map_append]; rfl, by rw [List.length_append, lfs]; rfl, ?_, ?_⟩
          · rw [upd_ne (fun z => by rw [z, nDH] at e; cases e)]
            exact bu5 c2 o (bu c2 o e ne) ne
          · have e : n + 12 + 11 * ((i + 1 : Nat) : Int) = n + 12 + 11 * (i : Int) + 11 := by omega
            rw [e]
            exact hl5z
          · exact List.nodup_append.mpr ⟨nfs, List.nodup_cons.mpr ⟨by simp, List.nodup_nil⟩, fun x hx y hy => by
              rw [List.mem_singleton] at hy
              rw [hy]
              exact fun z => c (z ▸ hx)⟩
          · rw [List.all_append, lows, Bool.true_and]
            show (lowZ wd && true) = true
            rw [lwd]
            rfl
      · generalize cutS b none (some (j : Int)) ++ (⟨#[abc[d]]⟩ : Str) ++ cutS b (some ((j : Int) + 1)) none = wd at lw1
        have lwd := lw1
        have bu5 : But p Hc (upd Hc p (.lst l5)) := But.set
        have hp5 : upd Hc p (.lst l5) p = some (.lst l5) := upd_same
        generalize upd Hc p (.lst l5) = H5 at bu5 hp5
        have hD5 := bu5 D _ hD nDp
        have hl5z := hl5.mono (show n + 12 + 11 * (i : Int) + 1 ≤ n + 12 + 11 * (i : Int) + 11 by omega)
        refine ⟨_, rfl, _, rfl, D, _, rfl, .inl (SqL.of hD5), rfl, flat_strs fs, ?_⟩
        refine ⟨_, rfl, ?_⟩
        rw [inV_strs]
        by_cases c : wd ∈ fs
        · rw [decide_eq_true c]
          refine iteT ?_
          refine ⟨_, rfl, by decide +kernel, fun r nr => ?_⟩
          refine ⟨r, rfl, ⟨_, SqL.of upd_same⟩, fun D2 nD2 => ?_⟩
          have s6 := same_new (o := .lst (signsV "abcdefghijklmnopqrstuvwxyz")) nr
          refine lstD (xs := abc.map fun c => V.str ⟨#[c]⟩) (fun x => match x with | .str z => (if (!decide (z ∈ fs)) = true then some (.str z) else none) | _ => none) (SqL.of upd_same) (by decide +kernel) nD2 (fun x H7 Ψ Θ hx s7 yes no => ?_) (fun H7 s7 h7 => ?_)
          · obtain ⟨c7, hc7, rfl⟩ := List.mem_map.mp hx
            walk_at "go"
            refine ⟨D, _, rfl, .inl (SqL.of (s7 _ _ (s6 _ _ hD5))), rfl, flat_strs fs, ?_⟩
            refine ⟨_, rfl, ?_⟩
            have e0 : (if true = true then !inV (V.str (oneS c7)) (fs.map V.str) else inV (V.str (oneS c7)) (fs.map V.str)) = !decide (oneS c7 ∈ fs) := by rw [if_pos rfl, inV_strs]
            show if (if true = true then !inV (V.str (oneS c7)) (fs.map V.str) else inV (V.str (oneS c7)) (fs.map V.str)) = true then _ else _
            rw [e0]
            by_cases z : (!decide (oneS c7 ∈ fs)) = true
            · have y := yes (.str (oneS c7)) H7 (if_pos z) (same_refl _)
              rw [z]
              exact iteT ⟨_, rfl, y⟩
            · have y := no H7 (if_neg z) (same_refl _)
              rw [Bool.eq_false_iff.mpr z]
              exact iteF y
          · obtain ⟨wX, rX, ef, lwX, nwX⟩ := free_letter (fs := fs) (by omega)
            have s67 := same_trans s6 s7
            have hDX := s67 _ _ hD5
            have hpX := s67 _ _ hp5
            have buX : But p Hc H7 := bu5.trans (.of s67)
            have h8 : H7 D2 = some (.lst ((wX :: rX).map V.str)) := by
              rw [h7, List.filterMap_map, ← ef, List.filter_map, List.map_map, ← filt_fm]
              rfl
            refine ⟨D2, _, _, .str wX, rfl, rfl, SqL.of h8, atI_nat (j := 0) rfl, ?_⟩
            refine ⟨_, rfl, .inl ⟨rfl, _, SqL.of hDX⟩, ?_⟩
            refine ⟨_, rfl, D, _, _, rfl, rfl, hDX, by rw [List.length_map]; omega, ?_⟩
            refine ⟨hi, l5, fs ++ [wX], _, _, rfl, fun c o e ne => ?_, (upd_ne (Ne.symm nDp)).trans hpX, ?_, by rw [upd_same, List.map_append]; rfl, by rw [List.length_append, lfs]; rfl, ?_, ?_⟩
            · rw [upd_ne (fun z => by rw [z, nDH] at e; cases e)]
              exact buX c o (bu c o e ne) ne
            · have e : n + 12 + 11 * ((i + 1 : Nat) : Int) = n + 12 + 11 * (i : Int) + 11 := by omega
              rw [e]
              exact hl5z
            · exact List.nodup_append.mpr ⟨nfs, List.nodup_cons.mpr ⟨by simp, List.nodup_nil⟩, fun x hx y hy => by
                rw [List.mem_singleton] at hy
                rw [hy]
                exact fun z => nwX (z ▸ hx)⟩
            · rw [List.all_append, lows, Bool.true_and]
              show (lowZ wX && true) = true
              rw [lwX]
              rfl
        · rw [decide_eq_false c]
          refine iteF ?_
          refine ⟨_, rfl, .inl ⟨rfl, _, SqL.of hD5⟩, ?_⟩
          refine ⟨_, rfl, D, _, _, rfl, rfl, hD5, by rw [List.length_map]; omega, ?_⟩
          refine ⟨hi, l5, fs ++ [wd], _, _, rfl, fun c2 o e ne => ?_, (upd_ne (Ne.symm nDp)).trans hp5, ?_, by rw [upd_same, List.map_append]; rfl, by rw [List.length_append, lfs]; rfl, ?_, ?_⟩
          · rw [upd_ne (fun z => by rw [z, nDH] at e; cases e)]
            exact bu5 c2 o (bu c2 o e ne) ne
          · have e : n + 12 + 11 * ((i + 1 : Nat) : Int) = n + 12 + 11 * (i : Int) + 11 := by omega
            rw [e]
            exact hl5z
          · exact List.nodup_append.mpr ⟨nfs, List.nodup_cons.mpr ⟨by simp, List.nodup_nil⟩, fun x hx y hy => by
              rw [List.mem_singleton] at hy
              rw [hy]
              exact fun z => c (z ▸ hx)⟩
          · rw [List.all_append, lows, Bool.true_and]
            show (lowZ wd && true) = true
            rw [lwd]
            rfl
    · rintro σ Hc ⟨_, l4, fs, v6, v7, rfl, bu, hp4, hl4, hD, lfs, nfs, lows⟩
      exact ⟨_, rfl, k Hc D l4 fs bu hp4 (hl4.mono (by omega)) nDH hD nfs lows (by omega)⟩
end
end My
end

section
set_option Elab.async false
set_option linter.all false
set_option maxRecDepth 100000
set_option maxHeartbeats 4000000
namespace MyQ
open PySem PySem.Spec PyProof.Rows L2
/-- one keyword alone -/
def gOne {α : Type} : List α → List α → List α
  | [], [a] => [a]
  | _, _ => []
/-- two keywords, written the other way round -/
def gTwo {α : Type} : List α → List α → List α
  | [], [a, b] => [b, a]
  | _, _ => []
theorem one_rel {vs zs : List V} {us ws : List Value} (r : Vals vs us) (t : Vals zs ws) : Vals (gOne vs zs) (gOne us ws) := by
  cases r with
  | nil =>
    cases t with
    | nil => exact .nil
    | cons a t =>
      cases t with
      | nil => exact .cons a .nil
      | cons b t => exact .nil
  | cons a r => exact .nil
theorem two_rel {vs zs : List V} {us ws : List Value} (r : Vals vs us) (t : Vals zs ws) : Vals (gTwo vs zs) (gTwo us ws) := by
  cases r with
  | nil =>
    cases t with
    | nil => exact .nil
    | cons a t =>
      cases t with
      | nil => exact .nil
      | cons b t =>
        cases t with
        | nil => exact .cons b (.cons a .nil)
        | cons c t => exact .nil
  | cons a r => exact .nil
section
variable {K : PySem.W.Frag} {x qual a b : Str} {st : Stmt} {f : Addr} {fd : FuncData}
theorem kb_one (F : Fun K x qual st f fd) (h : ∀ (kV doc pm : Value) (an : Option Addr) (cdv ct v : Value), bindArgs (PySem.W.fnOf x qual (defArgs st) (defBody st) (defScope st) .none kV doc pm an cdv ct) ⟨[], [(a, v)]⟩ = pure [(a, v)]) : KBinds K fd [a] [a] gOne gOne := by
  obtain ⟨oc, od, kV, doc, pm, an, cdv, ct, osl, rfl, lk, hcd⟩ := F.ex
  refine ⟨fun s us ws _ hl => ?_, fun r t => one_rel r t⟩
  match us, ws, hl with
  | [], [v], _ => exact BindsTo.of_eq (h kV doc pm an cdv ct v)
  | [], [], hl => cases hl
  | [], _ :: _ :: _, hl => cases hl
  | _ :: _, _, hl => cases hl
theorem kb_two (F : Fun K x qual st f fd) (h : ∀ (kV doc pm : Value) (an : Option Addr) (cdv ct v u : Value), bindArgs (PySem.W.fnOf x qual (defArgs st) (defBody st) (defScope st) .none kV doc pm an cdv ct) ⟨[], [(b, v), (a, u)]⟩ = pure [(a, u), (b, v)]) : KBinds K fd [a, b] [b, a] gTwo gTwo := by
  obtain ⟨oc, od, kV, doc, pm, an, cdv, ct, osl, rfl, lk, hcd⟩ := F.ex
  refine ⟨fun s us ws _ hl => ?_, fun r t => two_rel r t⟩
  match us, ws, hl with
  | [], [v, u], _ => exact BindsTo.of_eq (h kV doc pm an cdv ct v u)
  | [], [], hl => cases hl
  | [], [_], hl => cases hl
  | [], _ :: _ :: _ :: _, hl => cases hl
  | _ :: _, _, hl => cases hl
end
section
variable {X : Cx} {CX : CXT} {k : Nat} {f : Addr} {fd : FuncData} {ps ks : List Str} {sp : Sp} {E : XK} {x : Str} {p pos : Pos} {kws : List Keyword} {tk : TA} {g : List Value → List Value → List Value} {gV : List V → List V → List V}
/-- f(k = v, ..), keywords alone -/
theorem pe_callK0 (F : FnOk X.prog X.w X.K X.mg X.base CX k f fd ps sp) (hr : Room k X.A) (hg : Gl X x) (hm : X.mg x = some (.ref f)) (hk : PySem.W.keepIn X.K (.ref f) = true) (hb : KBinds X.K fd ps ks g gV) (hx : Passes CX X E)
    (hkw : PK X kws tk) (hall : (backToKw pos (keywordEach kws X.env)).all (·.1.isSome) = true := by rfl) (hks : (backToKw pos (keywordEach kws X.env)).filterMap (·.1) = ks := by rfl)
    (hdb : (x == ("__debug__" : Str)) = false := by decide) (hpl : ((backTo pos (starEach [] X.env)).any (·.1) || (backToKw pos (keywordEach kws X.env)).any (·.1.isNone)) = false := by rfl) :
    PE X (.Call (.Name x p) [] kws pos) (tCallK sp gV E tNil tk) := by
  refine ⟨fun pins s σ H Q I h => ?_⟩
  refine wpAny_Call_Name_kw (ld_glob I hg hm ?_ hdb)
  refine PySem.W.callWith_KW0 (h₀ := X.base) I.ok.mod.kin hk hall (thn (hkw.run pos pins s σ H _ I h) fun ws s2 ⟨zs, H2, I2, rz, q2⟩ => ⟨I2.kIn, ?_⟩) hpl
  rw [hks]
  exact run_fnk F hr hb hx I2 .nil rz q2
/-- t[::-1] of a tuple of two or more -/
def tRevT (K : PySem.W.Frag) (te : TE) : TE := fun σ H Q => te σ H fun x H1 => ∃ a xs, x = .ref a ∧ SqT K H1 a xs ∧ ∀ p, H1 p = none → Q (.ref p) (upd H1 p (.tup xs.reverse))
end
end MyQ
end

section
set_option Elab.async false
set_option linter.all false
set_option maxRecDepth 100000
set_option maxHeartbeats 4000000
namespace MyV
open PySem PySem.Spec PyProof.Rows L2 HT
theorem adjust_rev (n : Nat) : Builtin.Slice.sliceAdjust none none (-1) (n : Int) = ((n : Int) - 1, -1) := by
  unfold Builtin.Slice.sliceAdjust
  rfl
theorem places_rev (n : Nat) : Builtin.Slice.slicePlaces ((n : Int) - 1) (-1) (-1) = n := by
  unfold Builtin.Slice.slicePlaces
  simp
  all_goals omega
theorem pick_rev (xs : Array Value) : ((List.range xs.size).filterMap fun (m : Nat) => xs[(((xs.size : Int) - 1) + (m : Int) * (-1)).toNat]?).toArray = xs.toList.reverse.toArray := by
  congr 1
  have q := MyF.range_fm (fun x : Value => some x) xs.toList.reverse
  rw [List.length_reverse, Array.length_toList] at q
  rw [List.filterMap_some] at q
  refine Eq.trans (MyF.fm_congr fun i hi => ?_) q
  have hi2 : i < xs.size := List.mem_range.mp hi
  have e : (((xs.size : Int) - 1) + (i : Int) * (-1)).toNat = xs.size - 1 - i := by omega
  rw [e, List.getElem?_reverse (by rw [Array.length_toList]; exact hi2), Array.length_toList, Array.getElem?_toList]
  cases xs[xs.size - 1 - i]? <;> rfl
section
variable {prog : Program} {w : World} {A : Around} {E : Value → Shared → Prop} {s : Shared}
theorem get_rev {t sl : Addr} {items : Array Value} {k : Tok} {Q : Value → Shared → Prop} (ht : IsTup s.heap t items) (hs : s.heap.IsSliceOf sl .none .none (.int (-1) k)) (h : Q (.ref s.heap.objs.size) { s with heap := s.heap.push { cls := .type "tuple", data := .seq items.toList.reverse.toArray } })
    (hz : items.size ≤ sizeLine) : wpAny (model prog w) A (getItem (.ref t) (.ref sl)) Q E s := by
  have ok : sizeOk (.seq items.toList.reverse.toArray) := by
    show items.toList.reverse.toArray.size ≤ sizeLine
    rw [List.size_toArray, List.length_reverse, Array.length_toList]
    exact hz
  obtain ⟨os, hos, hcs, hds⟩ := id hs
  have ty : s.TypeIs (.ref sl) "slice" := ⟨os, hos, hcs⟩
  unfold getItem
  try with_reducible refine wpAny_holding ?_
  first | refine wpAny_bind (wpAny_pure ?_) | skip
  refine wpAny_bind (wpAny_sequenceKey ht.typeIs (by decide) (wpAny_bind (wpAny_callSpecial?_slot (name := Str.ofString "__getitem__") ht.typeIs PyProof.Rows.slot_tuple_getitem
    (wpAny_call_entry PyProof.Rows.slot_tuple_getitem ht.typeIs entry_tuple_getitem ?_ (args_tuple_getitem _ _)))))
  refine wpAny_bind (m := Builtin.Tuple.tupleItemsOf (.ref t)) (tupleItemsOf_ ht (wpAny_bind (wpAny_typeOf ty ?_)))
  rw [if_pos (by decide)]
  refine wpAny_bind (m := Builtin.Slice.sliceApplied (.ref sl) (pure (items.size : Int))) ?_
  unfold Builtin.Slice.sliceApplied Builtin.Slice.sliceFields
  refine wpAny_bind (wpAny_bind (wpAny_field hos hds (x := .none) rfl (wpAny_bind (wpAny_field hos hds (x := .none) rfl (wpAny_bind (wpAny_field hos hds (x := .int (-1) k) rfl (wpAny_pure ?_)))))))
  refine wpAny_bind (slicePart_ (.int (-1) k) ?_)
  show wpAny _ _ (if ((-1 : Int) == 0) = true then _ else _) _ _ s
  rw [if_neg (by decide)]
  refine wpAny_bind (slicePart_ .none (wpAny_bind (slicePart_ .none (wpAny_bind (wpAny_pure ?_)))))
  show wpAny _ _ (match Builtin.Slice.sliceAdjust none none (-1) (items.size : Int) with | (lo, hi) => pure (lo, (-1 : Int), Builtin.Slice.slicePlaces lo hi (-1))) _ _ s
  rw [adjust_rev]
  show wpAny _ _ (pure ((items.size : Int) - 1, (-1 : Int), Builtin.Slice.slicePlaces ((items.size : Int) - 1) (-1) (-1))) _ _ s
  rw [places_rev]
  refine wpAny_pure ?_
  have no : ¬ ((((items.size : Int) - 1) == 0 && (-1 : Int) == 1 && items.size == items.size) = true) := by
    intro q
    rw [Bool.and_eq_true, Bool.and_eq_true] at q
    exact absurd q.1.2 (by decide)
  show wpAny _ _ (if ((((items.size : Int) - 1) == 0 && (-1 : Int) == 1 && items.size == items.size) = true) then _ else _) _ _ s
  rw [if_neg no, pick_rev]
  first
    | exact wpAny_bind (m := Builtin.Tuple.tupleExact _) (wpAny_newObj_type (wpAny_pure ⟨_, rfl, wpAny_pure h⟩) ok)
    | exact wpAny_bind (wpAny_bind (m := Builtin.Tuple.tupleExact _) (wpAny_newObj_type (wpAny_pure (wpAny_pure ⟨_, rfl, wpAny_pure h⟩)) ok))
end
section
variable {X : Cx}
/-- t[::-1] of a tuple -/
def tRevT (K : PySem.W.Frag) (te : TE) : TE := fun σ H Q => te σ H fun x H1 => ∃ a xs, x = .ref a ∧ SqT K H1 a xs ∧ ∀ p, H1 p = none → Q (.ref p) (upd H1 p (.tup xs.reverse))
theorem pe_revT {e : Expr} {te : TE} {k : Nat} {p1 p2 p3 pos : Pos} (he : PE X e te) : PE X (.Subscript e (.Slice none none (some (.UnaryOp .USub (.Constant (.int 1) k p1) p2)) p3) pos) (tRevT X.K te) := by
  refine ⟨fun pins s σ H Q I h => ?_⟩
  refine Subscript_ (thn (he.run pins s σ H _ I h) fun v s1 ⟨x, H1, I1, r1, a, xs, ex, hx, q⟩ => ?_)
  subst ex
  cases r1
  have st : PO X (some (.UnaryOp .USub (.Constant (.int 1) k p1) p2)) (tPart (tUn (rU fun i => .int (-i)) (tC (.int 1)))) := po_some (pe_un un_neg pe_int)
  refine wpAny_Slice (thn (po_none.run pins s1 σ H1 (fun o H2 => o = none ∧ H2 = H1) I1 ⟨rfl, rfl⟩) fun vl s2 ⟨l, H2, I2, pl, el, e2⟩ => ?_)
  subst el e2
  refine thn (po_none.run pins s2 σ H2 (fun o H3 => o = none ∧ H3 = H2) I2 ⟨rfl, rfl⟩) fun vu s3 ⟨u, H3, I3, pu, eu, e3⟩ => ?_
  subst eu e3
  refine thn (st.run pins s3 σ H3 (fun o H4 => o = some (-1) ∧ H4 = H3) I3 ⟨1, rfl, -1, rfl, rfl, rfl⟩) fun vs s4 ⟨o, H4, I4, ps, eo, e4⟩ => ?_
  subst eo e4
  cases pl
  cases pu
  obtain ⟨tk, rfl⟩ : ∃ tk, vs = Value.int (-1) tk := by
    cases ps
    exact ⟨_, rfl⟩
  have I5 : L2.Inv X pins σ H4 { s4 with heap := s4.heap.push { cls := .type "slice", data := .fields #[.none, .none, .int (-1) tk] } } := I4.kept (t' := s4.toks) fun b ob q => Heap.get?_push_of_some _ q
  obtain ⟨its, r, ht, hz⟩ := I5.tuple hx
  refine tail_any (ops := [.ref a, .ref s4.heap.objs.size]) ht.typeIs (PyProof.Rows.slot_tuple_getitem.lookup) ?_ (by with_unfolding_all rfl)
  refine get_rev ht (Heap.IsSliceOf.new _ .none .none (.int (-1) tk)) ?_ (by rw [List.size_toArray, ← r.length]; exact hz)
  refine ⟨.ref _, _, I5.laid (t' := s4.toks) (o := .tup xs.reverse) (fun b ob q => Heap.get?_push_of_some _ q) (Nat.le_refl _) ?_, rfl, q _ (I5.hok.fresh (Nat.le_refl _))⟩
  exact ⟨by rw [List.length_reverse]; exact hz, its.reverse, r.reverse, _, Heap.get?_push_size _ rfl, rfl, 0, by simp⟩
end
end MyV
end

section
set_option Elab.async false
set_option linter.all false
set_option maxRecDepth 100000
set_option maxHeartbeats 4000000
namespace My
local macro_rules | `(tactic| walk_at "go") => `(tactic| (repeat (first
  | (refine ⟨_, rfl, ?_⟩)
  | (refine ⟨_, _, rfl, rfl, ?_⟩)
  | (refine ⟨_, _, rfl, ?_⟩)
  | (refine ⟨rfl, ?_⟩)
  | (refine Or.inl ⟨_, rfl, ?_⟩)
  | (refine ⟨_, _, _, _, rfl, rfl, L2.SqL.of (by first | assumption | exact L2.upd_same), rfl, ?_⟩)
  | (refine ⟨_, _, _, _, rfl, rfl, (by first | assumption | exact L2.upd_same), rfl, ?_⟩)
  | (refine And.intro (by first | omega | decide | (unfold L2.CPow; decide) | (unfold L2.CMul; omega) | (unfold L2.CDiv; omega)) ?_))))
open PySem PySem.Spec PyProof.Rows L2 TL MyF MyS MyW MyT MyQ MyV RZ
/-! ### two clauses -/
theorem opp_neg {y : Str} (n : negS y = true) : oppS y = bareS y := if_pos n
theorem opp_pos {y : Str} (n : ¬ negS y = true) : oppS y = dash ++ y := if_neg n
theorem dash_bare {y : Str} (n : negS y = true) : dash ++ bareS y = y := by
  refine str_ext ?_
  rw [cps_cat, dash_cps, bare_eq, if_pos n]
  rw [neg_eq] at n
  have e := of_decide_eq_true n
  rw [← e, List.take_append_drop]
/-- twice turned is the same -/
theorem opp_opp {y : Str} (l : litS y = true) : oppS (oppS y) = y := by
  by_cases n : negS y = true
  · rw [opp_neg n, opp_pos (low_neg l), dash_bare n]
  · rw [opp_pos n, opp_neg (neg_dash y), bare_dash]
theorem bare_opp {y : Str} (l : litS y = true) : bareS (oppS y) = bareS y := by
  by_cases n : negS y = true
  · rw [opp_neg n, bare_low l]
  · rw [opp_pos n, bare_dash, bare_of_pos n]
/-- two literals of one variable -/
theorem same_bare {y z : Str} (ly : litS y = true) (lz : litS z = true) (e : bareS y = bareS z) : z = y ∨ z = oppS y := by
  by_cases n : negS y = true
  · by_cases m : negS z = true
    · left
      rw [← dash_bare n, ← dash_bare m, e]
    · right
      rw [opp_neg n, e, bare_of_pos m]
  · by_cases m : negS z = true
    · right
      rw [opp_pos n, ← dash_bare m, ← e, bare_of_pos n]
    · left
      rw [← bare_of_pos n, ← bare_of_pos m, e]
theorem Good.lits {ns rs : List Str} (h : Good ns rs) (lo : ns.all lowZ = true) : ∀ y ∈ rs, litS y = true := fun y hy => by
  obtain ⟨s, hs, sg⟩ := h.lit y hy
  exact sg.lit (List.all_eq_true.mp lo s hs)
theorem mem_clash {ys zs : List Str} {y : Str} : y ∈ clashS ys zs ↔ y ∈ ys ∧ oppS y ∈ zs := by
  unfold clashS
  rw [List.mem_filter, decide_eq_true_iff]
/-- what two clauses meet at -/
def meetO : List Str → Option Str
  | [y] => some (bareS y)
  | _ => none
theorem nodup_one {l : List Str} {x : Str} (n : l.Nodup) (h : ∀ y, y ∈ l ↔ y = x) : l = [x] := by
  match l, n, h with
  | [], _, h => exact absurd ((h x).mpr rfl) (by simp)
  | [a], _, h => rw [(h a).mp (List.mem_cons_self ..)]
  | a :: b :: r, n, h =>
    have e1 := (h a).mp (List.mem_cons_self ..)
    have e2 := (h b).mp (List.mem_cons_of_mem _ (List.mem_cons_self ..))
    exact absurd (show a ∈ b :: r by rw [e1, ← e2]; exact List.mem_cons_self ..) (List.nodup_cons.mp n).1
theorem clash_one {ys zs : List Str} (ny : ys.Nodup) (nz : zs.Nodup) (ly : ∀ y ∈ ys, litS y = true) (lz : ∀ z ∈ zs, litS z = true) {y : Str} (h : clashS ys zs = [y]) : clashS zs ys = [oppS y] := by
  have hy : y ∈ clashS ys zs := by
    rw [h]
    exact List.mem_cons_self ..
  have hy2 := mem_clash.mp hy
  refine nodup_one (nz.filter _) fun z => ⟨fun hz => ?_, fun e => ?_⟩
  · have hz2 := mem_clash.mp hz
    have m : oppS z ∈ clashS ys zs := mem_clash.mpr ⟨hz2.2, by rw [opp_opp (lz z hz2.1)]; exact hz2.1⟩
    rw [h, List.mem_singleton] at m
    rw [← m, opp_opp (lz z hz2.1)]
  · rw [e]
    exact mem_clash.mpr ⟨hy2.2, by rw [opp_opp (ly y hy2.1)]; exact hy2.1⟩
theorem meet_sym {ys zs : List Str} (ny : ys.Nodup) (nz : zs.Nodup) (ly : ∀ y ∈ ys, litS y = true) (lz : ∀ z ∈ zs, litS z = true) : meetV zs ys = meetV ys zs := by
  have one : ∀ {as bs : List Str}, as.Nodup → bs.Nodup → (∀ y ∈ as, litS y = true) → (∀ y ∈ bs, litS y = true) → ∀ {y}, clashS as bs = [y] → meetV bs as = .str (bareS y) ∧ meetV as bs = .str (bareS y) := fun {as bs} na nb la lb {y} h => by
    have h2 := clash_one na nb la lb h
    have hy : y ∈ clashS as bs := by
      rw [h]
      exact List.mem_cons_self ..
    unfold meetV
    rw [h, h2]
    exact ⟨by rw [← bare_opp (la y (mem_clash.mp hy).1)], rfl⟩
  have non : ∀ {as bs : List Str}, (∀ y, clashS as bs ≠ [y]) → meetV as bs = .non := fun {as bs} h => by
    unfold meetV
    generalize clashS as bs = l at h
    match l, h with
    | [], _ => rfl
    | [y], h => exact absurd rfl (h y)
    | _ :: _ :: _, _ => rfl
  by_cases c : ∃ y, clashS ys zs = [y]
  · obtain ⟨y, h⟩ := c
    obtain ⟨h1, h2⟩ := one ny nz ly lz h
    rw [h1, h2]
  · rw [non fun y h => c ⟨y, h⟩]
    by_cases d : ∃ z, clashS zs ys = [z]
    · obtain ⟨z, h⟩ := d
      exact absurd ⟨_, clash_one nz ny lz ly h⟩ c
    · rw [non fun z h => d ⟨z, h⟩]
/-- no clash: what both have together has no contraries -/
theorem has_both {ys zs : List Str} (hy : hasS ys = false) (hz : hasS zs = false) (ly : ∀ y ∈ ys, litS y = true) (lz : ∀ z ∈ zs, litS z = true) (nc : clashS ys zs = []) : hasS (ys ++ zs) = false := by
  have no : ∀ y, y ∈ ys → oppS y ∈ zs → False := fun y a b => by
    have m := mem_clash.mpr ⟨a, b⟩
    rw [nc] at m
    cases m
  refine List.any_eq_false.mpr fun x hx e => ?_
  have m := of_decide_eq_true e
  rcases List.mem_append.mp hx with hx | hx
  · rcases List.mem_append.mp m with m | m
    · exact List.any_eq_false.mp hy x hx (decide_eq_true m)
    · exact no x hx m
  · rcases List.mem_append.mp m with m | m
    · exact no _ m (by rw [opp_opp (lz x hx)]; exact hx)
    · exact List.any_eq_false.mp hz x hx (decide_eq_true m)
/-- what is put together is made true by what makes both true -/
theorem kept_put {ys zs ps : List Str} {y : Str} (by1 : (ys.map bareS).Nodup) (bz1 : (zs.map bareS).Nodup) (ly : ∀ y ∈ ys, litS y = true) (lz : ∀ z ∈ zs, litS z = true) (cons : ∀ x ∈ ps, oppS x ∉ ps) (h : clashS ys zs = [y])
    (k1 : ∃ x ∈ ys, x ∈ ps) (k2 : ∃ x ∈ zs, x ∈ ps) : ∃ x, x ∈ (ys ++ zs).filter (fun x => !decide (bareS x = bareS y)) ∧ x ∈ ps := by
  have hy := mem_clash.mp (show y ∈ clashS ys zs by rw [h]; exact List.mem_cons_self ..)
  obtain ⟨a, ha, pa⟩ := k1
  obtain ⟨b, hb, pb⟩ := k2
  by_cases ca : bareS a = bareS y
  · by_cases cb : bareS b = bareS y
    · have ea : a = y := inj_of_nodup by1 ha hy.1 ca
      have eb : b = oppS y := inj_of_nodup bz1 hb hy.2 (by rw [cb, bare_opp (ly y hy.1)])
      rw [ea] at pa
      rw [eb] at pb
      exact absurd pb (cons y pa)
    · exact ⟨b, List.mem_filter.mpr ⟨List.mem_append.mpr (.inr hb), by rw [decide_eq_false cb]; rfl⟩, pb⟩
  · exact ⟨a, List.mem_filter.mpr ⟨List.mem_append.mpr (.inl ha), by rw [decide_eq_false ca]; rfl⟩, pa⟩
end My
end

section
set_option Elab.async false
set_option linter.all false
set_option maxRecDepth 100000
set_option maxHeartbeats 4000000
namespace MyF
open PySem PySem.Spec PyProof.Rows L2
/-- a comprehension over a tuple at a, that changes nothing, its list at D -/
theorem tupD {K : PySem.W.Frag} {a D : Addr} {xs : List V} {g : TG} {tt : TT} {te : TE} {vs : List Nat} {σ : L2.St} {H : Hp} {Qd : Hp → Prop} (F : V → Option V) (hS : SqT K H a xs) (few : xs.length < sizeLine) (nD : H D = none)
    (turn : ∀ x H2 (Ψ : V → Hp → Prop) (Θ : Hp → Prop), x ∈ xs → Same H H2 → (∀ y H5, F x = some y → Same H2 H5 → Ψ y H5) → (∀ H5, F x = none → Same H2 H5 → Θ H5) →
      g x (wipe σ vs) H2 fun σ2 H2 => wipe σ2 vs = wipe σ vs ∧ tt σ2 H2 fun b H3 => if b = true then te σ2 H3 Ψ else Θ H3)
    (done : ∀ H2, Same H H2 → H2 D = some (.lst (xs.filterMap F)) → Qd H2) :
    ∃ W : Nat → Nat → Hp → Prop, (∃ m, W 0 m (upd H D (.lst []))) ∧ ∀ i m H, W i m H →
      ((Itt K a).stop i H ∧ Qd H) ∨ ((Itt K a).go i H ∧ ∃ Nx : Hp → Prop, (∀ H', Nx H' → ∃ m', m' < m ∧ W (i + 1) m' H') ∧ ∀ x H', (Itt K a).yld i H x H' → g x (wipe σ vs) H' fun σ2 H2 => wipe σ2 vs = wipe σ vs ∧ tt σ2 H2 fun b H3 =>
        if b = true then te σ2 H3 fun y H4 => ∃ acc, H4 D = some (.lst acc) ∧ acc.length < sizeLine ∧ Nx (upd H4 D (.lst (acc ++ [y]))) else Nx H3) :=
  fm_it (g := g) (tt := tt) (te := te) (vs := vs) (σ := σ) (Qd := Qd) walk_tup (fun i => (xs[i]?).bind F) nD few (fun H2 s2 => sqT_same hS s2)
      (fun i x H2 H3 Ψ Θ hi s2 y yes no => by
        obtain ⟨rfl, hx⟩ := y
        exact turn x H3 Ψ Θ (List.mem_of_getElem? hx) s2 (fun y H5 e s5 => yes y H5 (by rw [hx]; exact e) s5) fun H5 e s5 => no H5 (by rw [hx]; exact e) s5)
      fun H2 s2 h2 => done H2 s2 (by rw [h2, range_fm])
end MyF
end

section
set_option Elab.async false
set_option linter.all false
set_option maxRecDepth 100000
set_option maxHeartbeats 4000000
namespace My
local macro_rules | `(tactic| walk_at "go") => `(tactic| (repeat (first
  | (refine ⟨_, rfl, ?_⟩)
  | (refine ⟨_, _, rfl, rfl, ?_⟩)
  | (refine ⟨_, _, rfl, ?_⟩)
  | (refine ⟨rfl, ?_⟩)
  | (refine Or.inl ⟨_, rfl, ?_⟩)
  | (refine ⟨_, _, _, _, rfl, rfl, L2.SqL.of (by first | assumption | exact L2.upd_same), rfl, ?_⟩)
  | (refine ⟨_, _, _, _, rfl, rfl, (by first | assumption | exact L2.upd_same), rfl, ?_⟩)
  | (refine And.intro (by first | omega | decide | (unfold L2.CPow; decide) | (unfold L2.CMul; omega) | (unfold L2.CDiv; omega)) ?_))))
open PySem PySem.Spec PyProof.Rows L2 TL MyF MyS MyW MyT MyQ MyV RZ
structure Tts (mg : Str → Option Value) : Prop where
  sorted : mg "sorted" = none
  len : mg "len" = none
  all : mg "all" = none
theorem pwc {H : Hp} {a : Addr} {ys : List Str} {K : PySem.W.Frag} (h : ClAt K H a ys) : ys.Pairwise fun a b => ltS a b = true := by
  have e := h.2.1
  unfold clS at e
  rw [Bool.and_eq_true, Bool.and_eq_true] at e
  exact asc_pw e.1.2
theorem cases_em {ys zs cs : List Str} (pm : cs.Perm ((clashS ys zs).map bareS)) : (∃ y, clashS ys zs = [y] ∧ cs = [bareS y] ∧ meetV ys zs = .str (bareS y)) ∨ (meetV ys zs = .non ∧ cs.length ≠ 1) := by
  unfold meetV
  have hl := pm.length_eq
  rw [List.length_map] at hl
  generalize clashS ys zs = l at pm hl
  match l, pm, hl with
  | [], _, hl => exact .inr ⟨rfl, by rw [hl]; decide⟩
  | [y], pm, _ => exact .inl ⟨y, rfl, List.perm_singleton.mp pm, rfl⟩
  | _ :: _ :: _, _, hl => exact .inr ⟨rfl, by rw [hl, List.length_cons, List.length_cons]; omega⟩
theorem ex_strs {K : PySem.W.Frag} {H : Hp} {a b : Addr} {xs : List Str} (h1 : SqT K H a (xs.map V.str)) (h2 : SqT K H b (xs.map V.str)) (few : xs.length < 1000) : Ex K H 1 (.ref a) (.ref b) :=
  .inr (.inl ⟨a, b, _, _, rfl, rfl, .inr ⟨h1, h2⟩, rfl, by rw [List.length_map]; exact few, fun i u v hu hv => by
    rw [hu] at hv
    cases hv
    obtain ⟨z, _, rfl⟩ := List.mem_map.mp (List.mem_of_getElem? hu)
    exact Ex.leaf (.str z) 0⟩)
theorem ex_four {K : PySem.W.Frag} {H : Hp} {p q : Addr} {a b c d e f : V} (h1 : H p = some (.lst [a, b, c, c])) (h2 : H q = some (.lst [d, e, f, f])) (k1 : Ex K H 1 a d) (k2 : Ex K H 1 b e) (k3 : Ex K H 1 c f) : Ex K H 2 (.ref p) (.ref q) :=
  .inr (.inl ⟨p, q, _, _, rfl, rfl, .inl ⟨SqL.of h1, SqL.of h2⟩, rfl, by show 4 < 1000; decide, fun i u v hu hv => by
    rcases i with _ | _ | _ | _ | i
    · cases hu; cases hv; exact k1
    · cases hu; cases hv; exact k2
    · cases hu; cases hv; exact k3
    · cases hu; cases hv; exact k3
    · cases hu⟩)
theorem ex_two {K : PySem.W.Frag} {H : Hp} {p q : Addr} {a b c d : V} (h1 : H p = some (.lst [a, b])) (h2 : H q = some (.lst [c, d])) (k1 : Ex K H 1 a c) (k2 : Ex K H 1 b d) : Ex K H 2 (.ref p) (.ref q) :=
  .inr (.inl ⟨p, q, _, _, rfl, rfl, .inl ⟨SqL.of h1, SqL.of h2⟩, rfl, by show 2 < 1000; decide, fun i u v hu hv => by
    rcases i with _ | _ | i
    · cases hu; cases hv; exact k1
    · cases hu; cases hv; exact k2
    · cases hu⟩)
theorem ok_str {c : Str} (h : lowZ c = true) : PyData.strOk c = true := by
  unfold PyData.strOk
  rw [← Array.all_toList]
  refine List.all_eq_true.mpr fun x hx => decide_eq_true ?_
  have := ((low_parts h).2.2 x hx).2
  omega
theorem lay_strs : ∀ cs : List Str, (∀ c ∈ cs, lowZ c = true) → PyData.canLayAll0 (cs.map PyData.str) = true
  | [], _ => by simp [PyData.canLayAll0]
  | c :: cs, h => by simp [PyData.canLayAll0, PyData.canLay0, lay_strs cs (fun x hx => h x (List.mem_cons_of_mem _ hx)), ok_str (h c (List.mem_cons_self ..))]
theorem depth_strs : ∀ cs : List Str, PyData.depthAll (cs.map PyData.str) ≤ 1
  | [] => by simp [PyData.depthAll]
  | c :: cs => by
    have h := depth_strs cs
    simp only [List.map_cons, PyData.depthAll, PyData.depth]
    omega
theorem shaped_strs (cs : List Str) (h9 : ∀ c ∈ cs, lowZ c = true) : SeqAt.shaped (.list (cs.map PyData.str)) = true := by
  have h := depth_strs cs
  have h2 : PyData.depth (.list (cs.map PyData.str)) ≤ 64 := by
    simp only [PyData.depth]
    omega
  show (PyData.canLay0 (.list (cs.map PyData.str)) && decide (PyData.depth (.list (cs.map PyData.str)) ≤ 64)) = true
  rw [Bool.and_eq_true]
  exact ⟨by simp only [PyData.canLay0]; exact lay_strs cs h9, decide_eq_true h2⟩
theorem dp_strs {K : PySem.W.Frag} {H : Hp} : ∀ cs : List Str, DpAll K H (cs.map V.str) (cs.map PyData.str)
  | [] => .nil
  | c :: cs => .cons (.str c) (dp_strs cs)
theorem cl_has {K : PySem.W.Frag} {H : Hp} {a : Addr} {ys : List Str} (h : ClAt K H a ys) : hasS ys = false := by
  have e := h.2.1
  unfold clS at e
  rw [Bool.and_eq_true, Bool.not_eq_true'] at e
  exact e.2
theorem clash_nil {ys zs : List Str} (lz : ∀ z ∈ zs, litS z = true) (h : clashS ys zs = []) : clashS zs ys = [] := by
  refine List.eq_nil_iff_forall_not_mem.mpr fun z hz => ?_
  have hz2 := mem_clash.mp hz
  have m : oppS z ∈ clashS ys zs := mem_clash.mpr ⟨hz2.2, by rw [opp_opp (lz z hz2.1)]; exact hz2.1⟩
  rw [h] at m
  cases m
section
variable {P : Program} {w : World} {K : PySem.W.Frag} {mg : Str → Option Value} {base : Heap}
/-! ### _law_two_right -/
structure Cl2 (ys : List Str) : Prop where
  one : (ys.map bareS).Nodup
  lit : ∀ y ∈ ys, litS y = true
def spTwo (K : PySem.W.Frag) : Sp := fun vs H Q _ => ∃ (a b q : Addr) (ys zs : List Str) (ts : List Addr), vs = [.ref a, .ref b, .ref q] ∧ ClAt K H a ys ∧ ClAt K H b zs ∧ Cl2 ys ∧ Cl2 zs ∧ SqL K H q (ts.map V.ref) ∧ ts.length ≤ 1000 ∧
  (∀ t ∈ ts, ∃ ps : List Str, SqT K H t (ps.map V.str) ∧ ∀ x ∈ ps, oppS x ∉ ps) ∧ ∀ H', Same H H' → Q (.bl true) H'
end
end My
end

section
set_option Elab.async false
set_option linter.all false
set_option maxRecDepth 100000
set_option maxHeartbeats 4000000
namespace My
local macro_rules | `(tactic| walk_at "go") => `(tactic| (repeat (first
  | (refine ⟨_, rfl, ?_⟩)
  | (refine ⟨_, _, rfl, rfl, ?_⟩)
  | (refine ⟨_, _, rfl, ?_⟩)
  | (refine ⟨rfl, ?_⟩)
  | (refine Or.inl ⟨_, rfl, ?_⟩)
  | (refine ⟨_, _, _, _, rfl, rfl, L2.SqL.of (by first | assumption | exact L2.upd_same), rfl, ?_⟩)
  | (refine ⟨_, _, _, _, rfl, rfl, (by first | assumption | exact L2.upd_same), rfl, ?_⟩)
  | (refine And.intro (by first | omega | decide | (unfold L2.CPow; decide) | (unfold L2.CMul; omega) | (unfold L2.CDiv; omega)) ?_))))
open PySem PySem.Spec PyProof.Rows L2 TL MyF MyS MyW MyT MyQ MyV RZ
theorem perm_strs {ys : List V} {ns : List Str} (pm : ys.Perm (ns.map V.str)) : ∃ zs : List Str, ys = zs.map V.str ∧ zs.Perm ns := by
  have go : ∀ l : List V, (∀ x ∈ l, ∃ z, x = V.str z) → l = (strsV l).map V.str := by
    intro l
    induction l with
    | nil => intro _; rfl
    | cons x l ih =>
      intro h
      obtain ⟨z, rfl⟩ := h x (List.mem_cons_self ..)
      have e := ih fun y hy => h y (List.mem_cons_of_mem _ hy)
      show V.str z :: l = V.str z :: (strsV l).map V.str
      rw [← e]
  have e := go ys fun x hx => by
    obtain ⟨z, _, e⟩ := List.mem_map.mp (pm.mem_iff.mp hx)
    exact ⟨z, e.symm⟩
  refine ⟨strsV ys, e, ?_⟩
  have q : (strsV ys).Perm (strsV (ns.map V.str)) := pm.filterMap _
  rw [strsV_map] at q
  exact q
theorem has_mem {xs ys : List Str} (m : ∀ y, y ∈ xs ↔ y ∈ ys) (h : hasS ys = false) : hasS xs = false :=
  List.any_eq_false.mpr fun y hy e => List.any_eq_false.mp h y ((m y).mp hy) (decide_eq_true ((m _).mp (of_decide_eq_true e)))
theorem sgs_has {cs ss : List Str} (sg : Sgs cs ss) (nd : ss.Nodup) (low : ∀ s ∈ ss, lowZ s = true) : hasS cs = false := by
  have eb := sg.bare low
  have nb : (cs.map bareS).Nodup := by rw [eb]; exact nd
  refine List.any_eq_false.mpr fun y hy z => ?_
  obtain ⟨s, hs, k⟩ := sg.lit y hy
  obtain ⟨so, ne⟩ := k.opp (low s hs)
  exact ne (inj_of_nodup nb (of_decide_eq_true z) hy (by rw [so.bare (low s hs), k.bare (low s hs)]))
theorem asc_rev {rs : List Str} (p : rs.Pairwise fun a b => ltS a b = true) (h : 2 ≤ rs.length) : ascS rs.reverse = false := by
  cases e : ascS rs.reverse with
  | false => rfl
  | true =>
    have q := List.pairwise_reverse.mp (asc_pw e)
    match rs, p, q, h with
    | a :: b :: r, p, q, _ =>
      have h1 := List.rel_of_pairwise_cons p (List.mem_cons_self ..)
      have h2 := List.rel_of_pairwise_cons q (List.mem_cons_self ..)
      have := ltS_trans h1 h2
      rw [ltS_irrefl] at this
      cases this
theorem cl_rev {rs : List Str} (c : clS rs = true) (p : rs.Pairwise fun a b => ltS a b = true) : clS rs.reverse = decide (rs.length < 2) := by
  rcases Nat.lt_or_ge rs.length 2 with h | h
  · rw [decide_eq_true h]
    have e : rs.reverse = rs := by
      match rs, h with
      | [], _ => rfl
      | [a], _ => rfl
    rw [e]
    exact c
  · rw [decide_eq_false (by omega)]
    unfold clS
    rw [asc_rev p h, Bool.and_false, Bool.false_and]
theorem ex_strsL {K : PySem.W.Frag} {H : Hp} {a b : Addr} {xs : List Str} (h1 : SqL K H a (xs.map V.str)) (h2 : SqL K H b (xs.map V.str)) (few : xs.length < 1000) (d : Nat) : Ex K H (d + 1) (.ref a) (.ref b) :=
  .inr (.inl ⟨a, b, _, _, rfl, rfl, .inl ⟨h1, h2⟩, rfl, by rw [List.length_map]; exact few, fun i u v hu hv => by
    rw [hu] at hv
    cases hv
    obtain ⟨z, _, rfl⟩ := List.mem_map.mp (List.mem_of_getElem? hu)
    exact Ex.leaf (.str z) d⟩)
theorem ex_three {K : PySem.W.Frag} {H : Hp} {p q : Addr} {a b c d e f : V} (h1 : H p = some (.lst [a, b, c])) (h2 : H q = some (.lst [d, e, f])) (k1 : Ex K H 1 a d) (k2 : Ex K H 1 b e) (k3 : Ex K H 1 c f) : Ex K H 2 (.ref p) (.ref q) :=
  .inr (.inl ⟨p, q, _, _, rfl, rfl, .inl ⟨SqL.of h1, SqL.of h2⟩, rfl, by show 3 < 1000; decide, fun i u v hu hv => by
    rcases i with _ | _ | _ | i
    · cases hu; cases hv; exact k1
    · cases hu; cases hv; exact k2
    · cases hu; cases hv; exact k3
    · cases hu⟩)
structure Rts (mg : Str → Option Value) : Prop where
  sorted : mg "sorted" = none
  len : mg "len" = none
  list : mg "list" = none
section
variable {P : Program} {w : World} {K : PySem.W.Frag} {mg : Str → Option Value} {base : Heap}
/-! ### _law_lists_right -/
def spLR (K : PySem.W.Frag) : Sp := fun vs H Q _ => ∃ (p q : Addr) (n : Int) (l : List V) (ns : List Str), vs = [.ref p, .ref q] ∧ H p = some (.lst l) ∧ PurseL n l ∧ n ≤ 700000 ∧ SqL K H q (ns.map V.str) ∧ q ≠ p ∧ ns.Nodup ∧ ns.all lowZ = true ∧ ns.length ≤ 6 ∧
  ∀ (H' : Hp) (l' : List V), But p H H' → H' p = some (.lst l') → PurseL (n + 60) l' → Q (.bl true) H'
end
end My
end

section
set_option Elab.async false
set_option linter.all false
set_option maxRecDepth 100000
set_option maxHeartbeats 4000000
namespace My
local macro_rules | `(tactic| walk_at "go") => `(tactic| (repeat (first
  | (refine ⟨_, rfl, ?_⟩)
  | (refine ⟨_, _, rfl, rfl, ?_⟩)
  | (refine ⟨_, _, rfl, ?_⟩)
  | (refine ⟨rfl, ?_⟩)
  | (refine Or.inl ⟨_, rfl, ?_⟩)
  | (refine ⟨_, _, _, _, rfl, rfl, L2.SqL.of (by first | assumption | exact L2.upd_same), rfl, ?_⟩)
  | (refine ⟨_, _, _, _, rfl, rfl, (by first | assumption | exact L2.upd_same), rfl, ?_⟩)
  | (refine And.intro (by first | omega | decide | (unfold L2.CPow; decide) | (unfold L2.CMul; omega) | (unfold L2.CDiv; omega)) ?_))))
open PySem PySem.Spec PyProof.Rows L2 TL MyF MyS MyW MyT MyQ MyV RZ
/-! ### clauses made of a clause -/
theorem sorted_of_pw {l : List Str} (p : l.Pairwise fun a b => ltS a b = true) : sortedS l = true := by
  refine PyProof.Rows.sortedS_of_pairwise l (p.imp fun {a b} h => ?_)
  rw [ltCps_eq]
  refine decide_eq_false fun z => ?_
  have h2 : ltS b a = true := decide_eq_true z
  have := ltS_trans h h2
  rw [ltS_irrefl] at this
  cases this
theorem Good.pw {ns rs : List Str} (h : Good ns rs) : rs.Pairwise fun a b => ltS a b = true := asc_pw (asc_of_sorted h.up (nodup_of_map bareS h.one))
/-- a part of a clause is one -/
theorem Good.sub {ns rs qs : List Str} (h : Good ns rs) (s : qs.Sublist rs) : Good ns qs :=
  ⟨fun y hy => h.lit y (s.subset hy), h.one.sublist (s.map bareS), sorted_of_pw (h.pw.sublist s)⟩
theorem good_nil (ns : List Str) : Good ns [] := ⟨fun _ h => (by cases h), List.nodup_nil, rfl⟩
theorem Good.cl2 {ns rs : List Str} (h : Good ns rs) (lo : ns.all lowZ = true) : Cl2 rs := ⟨h.one, h.lits lo⟩
/-- some signs of a clause turned, put in order -/
theorem Good.turn {ns rs cs out : List Str} (h : Good ns rs) (lo : ns.all lowZ = true) (p : Paired (fun c y => c = y ∨ c = oppS y) cs rs) (io : InOrd out cs) : Good ns out ∧ out.length = rs.length := by
  have low : ∀ s ∈ ns, lowZ s = true := fun s hs => List.all_eq_true.mp lo s hs
  have go : ∀ {cs rs : List Str}, Paired (fun c y => c = y ∨ c = oppS y) cs rs → (∀ y ∈ rs, ∃ s ∈ ns, Sg y s) → Sgs cs (rs.map bareS) := fun {cs rs} p => by
    induction p with
    | nil => intro _; exact .nil
    | @cons c y cs rs r t ih =>
      intro hl
      obtain ⟨s, hs, sg⟩ := hl y (List.mem_cons_self ..)
      refine .cons ?_ (ih fun x hx => hl x (List.mem_cons_of_mem _ hx))
      rw [sg.bare (low s hs)]
      rcases r with rfl | rfl
      · exact sg
      · exact (sg.opp (low s hs)).1
  have sg := go p h.lit
  have sub : ∀ s ∈ rs.map bareS, s ∈ ns := fun s hs => by
    obtain ⟨y, hy, rfl⟩ := List.mem_map.mp hs
    obtain ⟨s, hs, k⟩ := h.lit y hy
    rw [k.bare (low s hs)]
    exact hs
  obtain ⟨g, e⟩ := good_of sg h.one sub lo io
  exact ⟨g, by rw [e, List.length_map]⟩
end My
end

section
set_option Elab.async false
set_option linter.all false
set_option maxRecDepth 100000
set_option maxHeartbeats 4000000
namespace MyZ
open PySem PySem.Spec PyProof.Rows PySem.W PySem.SeqAt PySem.Calls
/-- v is a tuple of texts in the heap -/
def TupS (h : Heap) (v : Value) : Prop := ∃ a xs, v = .ref a ∧ IsTup h a xs ∧ ∀ x ∈ xs.toList, ∃ z t, x = Value.str z t
theorem TupS.keeps {h h' : Heap} {v : Value} (x : TupS h v) (k : ∀ b o, h.get? b = some o → o.cls = .type "tuple" → h'.get? b = some o) : TupS h' v := by
  obtain ⟨a, xs, e, ⟨o, ho, hc, r⟩, q⟩ := x
  exact ⟨a, xs, e, ⟨o, k _ _ ho hc, hc, r⟩, q⟩
section
variable {prog : Program} {w : World} {A : Around} {E : Value → Shared → Prop} {s : Shared}
theorem call_tuple_lt {Q : Value → Shared → Prop} {l b : Addr} {items items2 : Array Value} {e r : Nat → Bool} (hl : IsTup s.heap l items) (hb : IsTup s.heap b items2)
    (he : ∀ j (h1 : j < items.size) (h2 : j < items2.size), EqAt A.in1 s items[j] items2[j] (e j)) (hr : ∀ j (h1 : j < items.size) (h2 : j < items2.size), e j = false → RcLt A.in1 s items[j] items2[j] (r j))
    (h : Q (.bool (firstLt e r (decide (items.size < items2.size)) (List.range (min items.size items2.size)))) s) : wpAny (model prog w) A (call (.builtin "tuple.__lt__") [.ref l, .ref b]) Q E s := by
  obtain ⟨⟨cls, dd, data, sl⟩, ho, hc, n, hd⟩ := id hl
  obtain ⟨⟨cls2, dd2, data2, sl2⟩, ho2, hc2, n2, hd2⟩ := id hb
  simp only at hc hd hc2 hd2
  subst hc hd hc2 hd2
  exact call_meets PySem.F.slot_tuple_lt ⟨_, ho, rfl⟩ PySem.F.entry_tuple_lt (PySem.F.args_tuple_lt_2 _ _) (tuple_ltAt l b items items2 n n2 dd dd2 sl sl2 e r) ⟨ho, ho2, he, hr, h⟩
theorem rcLt_str (A : Around) (s : Shared) (x : Str) (t : Tok) (y : Str) (u : Tok) : RcLt A s (.str x t) (.str y u) (decide (x.cps.toList < y.cps.toList)) := fun prog w E Q h =>
  (PyProof.Rows.lt_str h : wpAny (model prog w) A (compareOp .Lt (.str x t) (.str y u)) Q E s)
def eqS (a b : Option Value) : Bool := match a, b with
  | some (.str x _), some (.str y _) => x == y
  | _, _ => false
def ltSS (a b : Option Value) : Bool := match a, b with
  | some (.str x _), some (.str y _) => decide (x.cps.toList < y.cps.toList)
  | _, _ => false
theorem tups_tot {vs : List Value} (hu : A.units + 1 < cLine) (hp : ∀ v ∈ vs, TupS s.heap v) : Srt.Tot prog w A s oneType' (fun p => p.1 ∈ vs) := by
  intro p q hm hm'
  obtain ⟨a, xs, ea, ha, sa⟩ := hp _ hm
  obtain ⟨b, ys, eb, hb, sb⟩ := hp _ hm'
  rw [ea, eb]
  have at1 : ∀ j (h1 : j < xs.size), ∃ z t, xs[j] = Value.str z t := fun j h1 => sa _ (Array.mem_toList_iff.mpr (Array.getElem_mem h1))
  have at2 : ∀ j (h1 : j < ys.size), ∃ z t, ys[j] = Value.str z t := fun j h1 => sb _ (Array.mem_toList_iff.mpr (Array.getElem_mem h1))
  refine ⟨firstLt (fun j => eqS xs[j]? ys[j]?) (fun j => ltSS xs[j]? ys[j]?) (decide (xs.size < ys.size)) (List.range (min xs.size ys.size)), ?_⟩
  rw [keyLt'_oneType, oneLt'_eq]
  simp only [if_true]
  refine wpAny_bind (wpAny_cRoomFor (by omega) ?_)
  refine wpAny_bind (wpAny_callSpecialIfBound?_slot (T := "tuple") ha.typeIs PySem.F.slot_tuple_lt (call_tuple_lt (e := fun j => eqS xs[j]? ys[j]?) (r := fun j => ltSS xs[j]? ys[j]?) ha hb (fun j j1 j2 => ?_) (fun j j1 j2 hj => ?_) ?_))
  · obtain ⟨x, t, e1⟩ := at1 j j1
    obtain ⟨y, u, e2⟩ := at2 j j2
    rw [e1, e2]
    have e3 : eqS xs[j]? ys[j]? = (x == y) := by
      rw [Array.getElem?_eq_getElem j1, Array.getElem?_eq_getElem j2, e1, e2]
      rfl
    show EqAt _ _ _ _ (eqS xs[j]? ys[j]?)
    rw [e3]
    exact EqAt.str_str x t y u
  · obtain ⟨x, t, e1⟩ := at1 j j1
    obtain ⟨y, u, e2⟩ := at2 j j2
    rw [e1, e2]
    have e3 : ltSS xs[j]? ys[j]? = decide (x.cps.toList < y.cps.toList) := by
      rw [Array.getElem?_eq_getElem j1, Array.getElem?_eq_getElem j2, e1, e2]
      rfl
    show RcLt _ _ _ _ (ltSS xs[j]? ys[j]?)
    rw [e3]
    exact rcLt_str _ _ x t y u
  · exact wpAny_truthy_bool ⟨rfl, rfl⟩
theorem firsts_some : ∀ (vs : List Value) {Q : List (Option Value) → Shared → Prop}, (∀ v ∈ vs, TupS s.heap v) → (∀ fs, Q fs s) → wpAny (model prog w) A (vs.mapM firstOfTuple') Q E s
  | [], Q, _, h => by
    rw [List.mapM_nil]
    exact wpAny_pure (h [])
  | v :: vs, Q, hp, h => by
    obtain ⟨a, xs, rfl, ⟨o, ho, hc, n, hd⟩, _⟩ := hp v (List.mem_cons_self ..)
    rw [List.mapM_cons]
    refine wpAny_bind ?_
    rw [kas_first_eq]
    refine wpAny_bind (Looks.here (show Looks (model prog w) s.heap (typeOf (.ref a)) o.cls from (Looks.ld ho).andThen .now) ?_)
    rw [hc, if_neg (by first | decide | simp)]
    refine wpAny_bind (listItems_at ho hd (wpAny_pure ?_))
    exact wpAny_bind (firsts_some vs (fun v hv => hp v (List.mem_cons_of_mem _ hv)) fun fs => wpAny_pure (h _))
/-- the kind of keys: tuples, the first one empty -/
theorem kind_empty {a : Addr} {vs : List Value} {Q : SortKind → Shared → Prop} (ha : IsTup s.heap a #[]) (hp : ∀ v ∈ vs, TupS s.heap v) (h : Q oneType' s) : wpAny (model prog w) A (keyKind' (Value.ref a :: vs).toArray) Q E s := by
  obtain ⟨o, ho, hc, n, hd⟩ := ha
  rw [kat_kind_eq, List.mapM_toArray, map_eq_pure_bind]
  refine wpAny_bind (wpAny_bind ?_)
  rw [List.mapM_cons]
  refine wpAny_bind ?_
  rw [kas_first_eq]
  refine wpAny_bind (Looks.here (show Looks (model prog w) s.heap (typeOf (.ref a)) o.cls from (Looks.ld ho).andThen .now) ?_)
  rw [hc, if_neg (by first | decide | simp)]
  refine wpAny_bind (listItems_at ho hd (wpAny_pure ?_))
  refine wpAny_bind (firsts_some vs hp fun fs => wpAny_pure (wpAny_pure ?_))
  have e0 : (#[] : Array Value)[0]? = none := rfl
  rw [e0, if_neg (by simp), if_neg (by simp)]
  rw [oneTypeOnly'_eq, List.mapM_toArray, map_eq_pure_bind]
  have hT : ∀ v ∈ Value.ref a :: vs, Looks (model prog w) s.heap (typeOf v) (Value.type "tuple") := fun v hv => by
    rcases List.mem_cons.mp hv with rfl | hv
    · have q : Looks (model prog w) s.heap (typeOf (.ref a)) o.cls := (Looks.ld ho).andThen .now
      rw [hc] at q
      exact q
    · obtain ⟨b, xs, rfl, ⟨ob, hob, hcb, _⟩, _⟩ := hp v hv
      have q : Looks (model prog w) s.heap (typeOf (.ref b)) ob.cls := (Looks.ld hob).andThen .now
      rw [hcb] at q
      exact q
  refine wpAny_bind (wpAny_bind (wpAny_bind (kas_mapM (r := Value.type "tuple") _ (fun v hv Q' hq => (hT v hv).here hq) (wpAny_pure ?_))))
  have hall : ((List.map (fun _ => Value.type "tuple") (Value.ref a :: vs)).toArray.all fun x => x == Value.type "tuple") = true := by
    simp only [List.all_toArray, List.all_map, List.all_eq_true]
    intro _ _
    rfl
  have h0 : (List.map (fun _ => Value.type "tuple") (Value.ref a :: vs)).toArray[0]? = some (Value.type "tuple") := by simp
  rw [h0]
  simp only [hall, if_true]
  exact wpAny_pure (wpAny_pure h)
theorem tups_sortable {a t : Addr} {vs : List Value} (hu : A.units + 1 < cLine) (h0 : IsTup s.heap t #[]) (hp : ∀ v ∈ vs, TupS s.heap v) (ha : ∀ o, s.heap.get? a = some o → o.cls ≠ .type "tuple") : Srt.Sortable prog w A s a (Value.ref t :: vs) := by
  intro h' keep
  have kt : ∀ b o, s.heap.get? b = some o → o.cls = .type "tuple" → h'.get? b = some o := fun b o e c => keep b o (fun z => by subst z; exact ha o e c) e
  have hp' : ∀ v ∈ vs, TupS h' v := fun v hm => (hp v hm).keeps kt
  have h0' : IsTup h' t #[] := by
    obtain ⟨o, ho, hc, r⟩ := h0
    exact ⟨o, kt _ _ ho hc, hc, r⟩
  refine ⟨oneType', fun Q E hq => kind_empty (s := { s with heap := h' }) h0' hp' hq, tups_tot (s := { s with heap := h' }) hu fun v hv => ?_⟩
  rcases List.mem_cons.mp hv with rfl | hv
  · exact ⟨t, #[], rfl, h0', fun x hx => by simp at hx⟩
  · exact hp' v hv
theorem sorted_tups {l t : Addr} {vs : List Value} {Q : Value → Shared → Prop} (hu : A.units + 3 < cLine) (hl : s.heap.IsList l (Value.ref t :: vs).toArray) (hz : (Value.ref t :: vs).length ≤ sizeLine) (h0 : IsTup s.heap t #[]) (hp : ∀ v ∈ vs, TupS s.heap v)
    (h : ∀ (h' : Heap) (d : Addr) (out : List Value), out.Perm (Value.ref t :: vs) → (∀ b o, s.heap.get? b = some o → h'.get? b = some o) → s.heap.objs.size ≤ d → (∃ n, h'.get? d = some (seqObj "list" out.toArray n)) → Q (.ref d) { s with heap := h' }) :
    wpAny (model prog w) A (call (.builtin "sorted") [.ref l]) Q E s := by
  refine Srt.sorted_any hl hz (fun h2 h₁ a ha k => ?_) fun out ho => ?_
  · refine tups_sortable (s := { s with heap := h₁ }) (by show A.units + 1 + 1 + 1 < cLine; omega) ?_ (fun v hm => (hp v hm).keeps fun b o e _ => (k b o e).2) fun o e => ?_
    · obtain ⟨o, ho, hc, r⟩ := h0
      exact ⟨o, (k _ _ ho).2, hc, r⟩
    · have e' : some o = some (seqObj "list" (Value.ref t :: vs).toArray 0) := e.symm.trans ha
      cases e'
      intro c
      exact absurd (Value.type.inj c) (by decide)
  · exact h _ _ out ho (fun b o e => sortedAll_old e) (Nat.le_succ _) (sortedAll_at s.heap (Value.ref t :: vs) out.toArray)
end
end MyZ
namespace MyZ
open PySem PySem.Spec PyProof.Rows L2
section
variable {X : Cx}
/-- sorted(xs), xs a list of tuples of texts, the first one empty: a new list of the same, in some order -/
def rSortedTT (K : PySem.W.Frag) : List V → Hp → VK → Prop := fun vs H Q => ∃ (a t : Addr) (xs : List V), vs = [V.ref a] ∧ SqL K H a (.ref t :: xs) ∧ H t = some (.tup []) ∧ (∀ x ∈ xs, ∃ (t : Addr) (zs : List Str), x = V.ref t ∧ H t = some (.tup (zs.map V.str))) ∧
  ∀ ys p, ys.Perm (.ref t :: xs) → H p = none → Q (.ref p) (upd H p (.lst ys))
theorem cr_sortedTT (hu : X.A.units + 3 < cLine) : CallR X (.builtin "sorted") (rSortedTT X.K) := by
  intro pins s σ H vs us Q I r h
  obtain ⟨a, t0, xs, rfl, hs, ht0, hx, q⟩ := h
  obtain ⟨its, rv, hl, hz⟩ := I.list hs
  obtain ⟨u, rfl, ru⟩ := vals1 r
  obtain rfl : u = Value.ref a := ru
  obtain ⟨e1, e2⟩ := refs_back rv fun x m => by
    rcases List.mem_cons.mp m with rfl | m
    · exact ⟨_, rfl⟩
    · obtain ⟨t, _, e, _⟩ := hx x m
      exact ⟨t, e⟩
  cases its with
  | nil => cases rv
  | cons i0 its =>
    have ei : i0 = Value.ref t0 := by
      cases rv with
      | cons r0 _ => exact r0
    subst ei
    refine sorted_tups (t := t0) (vs := its) hu hl.isList (by rw [← rv.length]; exact hz) ?_ (fun v hv => ?_) fun h' d out hp k hd hn => ?_
    · obtain ⟨_, its2, r2, o, ho, hc, n, hd⟩ := I.hok _ _ ht0
      cases r2
      exact ⟨o, ho, hc, n, hd⟩
    · obtain ⟨t, rfl⟩ := e2 v (List.mem_cons_of_mem _ hv)
      have hm : V.ref t ∈ xs := by
        have e3 : xs = its.map backV := by
          rw [List.map_cons] at e1
          injection e1
        rw [e3]
        exact List.mem_map.mpr ⟨_, hv, rfl⟩
      obtain ⟨t', zs, e, ht⟩ := hx _ hm
      cases e
      obtain ⟨_, its2, r2, o, ho, hc, n, hd⟩ := I.hok _ _ ht
      refine ⟨t, its2.toArray, rfl, ⟨o, ho, hc, n, hd⟩, fun x hx2 => ?_⟩
      have go : ∀ {zs : List Str} {us : List Value}, Vals (zs.map V.str) us → ∀ x ∈ us, ∃ z t, x = Value.str z t := by
        intro zs
        induction zs with
        | nil =>
          intro us r x hx
          cases r
          cases hx
        | cons z zs ih =>
          intro us r x hx
          cases r with
          | cons r1 r2 =>
            rcases List.mem_cons.mp hx with rfl | hx
            · obtain ⟨t, e⟩ := r1
              exact ⟨z, t, e⟩
            · exact ih r2 x hx
      exact go r2 x (by simpa using hx2)
    · have h3 : ∀ u ∈ out, ∃ a, u = Value.ref a := fun u hu => e2 u (hp.mem_iff.mp hu)
      obtain ⟨n, hn⟩ := hn
      refine ⟨.ref d, upd H d (.lst (out.map backV)), I.laid (t' := s.toks) k hd ⟨?_, out, n, vals_back h3, hn⟩, rfl, q _ d ?_ (I.hok.fresh hd)⟩
      · rw [List.length_map, hp.length_eq, ← rv.length]; exact hz
      · rw [e1]; exact hp.map backV
end
end MyZ

/-! ### sorted(t), t a tuple of texts -/
namespace MyZ
open PySem PySem.Spec PyProof.Rows PySem.W PySem.SeqAt PySem.Calls
section
variable {prog : Program} {w : World} {A : Around} {E : Value → Shared → Prop} {s : Shared}
theorem collect_tup {l : Addr} {vs : List Value} {Q : List Value → Shared → Prop} (hl : IsTup s.heap l vs.toArray)
    (h : Q vs { s with heap := (s.heap.push (seqObj "list" #[] 0)).update s.heap.objs.size (Obj.mapSeq (· ++ vs.toArray)) }) (hsz : vs.length ≤ sizeLine) :
    wpAny (model prog w) A (collect (.ref l)) Q E s := by
  obtain ⟨o, ho, hc, n, hd⟩ := id hl
  unfold collect
  refine wpAny_bind (wpAny_runValue (codeAny_builtin entry_proto_collect' ?_))
  show wpAny _ _ (do again (.builtin "list.__iadd__" ⟨[← newList [], .ref l], []⟩)) _ _ s
  refine wpAny_bind (wpAny_newList (wpAny_pure ⟨Code.quiet_builtin _ (by decide +kernel), codeAny_builtin entry_list_iadd' ?_⟩))
  show wpAny _ _ (Builtin.List.listExtendWith (.ref s.heap.objs.size) (.ref l) (.ref s.heap.objs.size)) _ _ { s with heap := s.heap.push (seqObj "list" #[] 0) }
  unfold Builtin.List.listExtendWith
  have ho' : (s.heap.push (seqObj "list" #[] 0)).get? l = some o := Heap.get?_push_of_some _ ho
  refine wpAny_bind (wpAny_typeOf (T := "tuple") ⟨o, ho', hc⟩ ?_)
  have ht : (Value.type "tuple" == Value.type "tuple") = true := by rfl
  rw [if_pos (by rw [ht]; simp)]
  refine wpAny_bind (listItems_at ho' hd ?_)
  refine wpAny_bind (listItems_at (xs := #[]) (n := 0) (Heap.get?_push_size _ rfl) rfl ?_)
  rw [if_neg (by simp)]
  refine wpAny_bind (listUpdate_at (xs := #[]) (n := 0) (Heap.get?_push_size _ rfl) rfl ?_ (Nat.zero_le _) (by show (#[] ++ vs.toArray).size ≤ sizeLine + 1; simp only [Array.size_append, List.size_toArray, List.length_nil]; omega))
  refine wpAny_pure ?_
  show wpAny (model prog w) A (do
      let o ← load s.heap.objs.size
      match o.data with
      | .seq xs _ => pure xs.toList
      | _ => unsupported "internal:collect") Q E { s with heap := (s.heap.push (seqObj "list" #[] 0)).update s.heap.objs.size (Obj.mapSeq (· ++ vs.toArray)) }
  refine wpAny_bind (wpAny_load (get?_update_seq (Heap.get?_push_size _ rfl) _) ?_)
  show wpAny _ _ (pure ((#[] : Array Value) ++ vs.toArray).toList) Q E _
  rw [show ((#[] : Array Value) ++ vs.toArray).toList = vs by simp]
  exact wpAny_pure h
theorem sorted_anyT {l : Addr} {vs : List Value} {Q : Value → Shared → Prop} (hl : IsTup s.heap l vs.toArray) (hz : vs.length ≤ sizeLine)
    (hS : 2 ≤ vs.length → ∀ (h₁ : Heap) (a : Addr), h₁.get? a = some (seqObj "list" vs.toArray 0) → (∀ b o, s.heap.get? b = some o → b ≠ a ∧ h₁.get? b = some o) → Srt.Sortable prog w A.in1.in1 { s with heap := h₁ } a vs)
    (h : ∀ out : List Value, out.Perm vs → Q (.ref (s.heap.objs.size + 1)) { s with heap := sortedAll s.heap vs out.toArray }) :
    wpAny (model prog w) A (call (.builtin "sorted") [.ref l]) Q E s := by
  refine Calls.call_function_entry kind_sorted plain_sorted entry_sorted (args_sorted1 _) ?_
  unfold Builtin.«sorted»
  refine wpAny_bind (m := checkCount "sorted" 1 1 _) (wpAny_pure ?_)
  refine wpAny_bind (collect_tup hl ?_ hz)
  refine wpAny_bind (wpAny_newList ?_ hz)
  have hsz : ((s.heap.push (seqObj "list" #[] 0)).update s.heap.objs.size (Obj.mapSeq (· ++ vs.toArray))).objs.size = s.heap.objs.size + 1 := by
    rw [Heap.size_update, size_push']
  have hoL : (((s.heap.push (seqObj "list" #[] 0)).update s.heap.objs.size (Obj.mapSeq (· ++ vs.toArray))).push (seqObj "list" vs.toArray 0)).get? (s.heap.objs.size + 1) = some (seqObj "list" vs.toArray 0) := by
    rw [← hsz]; exact Heap.get?_push_size _ rfl
  have keep : ∀ b o, s.heap.get? b = some o → b ≠ s.heap.objs.size + 1 ∧ (((s.heap.push (seqObj "list" #[] 0)).update s.heap.objs.size (Obj.mapSeq (· ++ vs.toArray))).push (seqObj "list" vs.toArray 0)).get? b = some o := fun b o q => by
    have hlt : b < s.heap.objs.size := Heap.lt_size q
    refine ⟨Nat.ne_of_lt (Nat.lt_succ_of_lt hlt), Heap.get?_push_of_some _ ?_⟩
    rw [Heap.get?_update_ne _ _ _ _ (Nat.ne_of_lt hlt)]
    exact Heap.get?_push_of_some _ q
  show wpAny _ _ _ _ _ { s with heap := ((s.heap.push (seqObj "list" #[] 0)).update s.heap.objs.size (Obj.mapSeq (· ++ vs.toArray))).push (seqObj "list" vs.toArray 0) }
  rw [hsz]
  refine wpAny_bind (wpAny_holding (wpAny_call_entry slot_list_sort ⟨_, hoL, rfl⟩ entry_list_sort (Srt.list_sort_any hoL hz (fun h2 => hS h2 _ _ hoL keep) fun out hp => ⟨_, rfl, ?_⟩) (args_list_sort _)))
  exact wpAny_pure ⟨_, rfl, h out hp⟩
theorem strs_sortable {a : Addr} {vs : List Value} {zs : List Str} (h2 : 2 ≤ vs.length) (hS : StrsAre vs zs) (hall : ∀ v ∈ vs, ∃ z t, v = Value.str z t) : Srt.Sortable prog w A s a vs := by
  intro h' keep
  refine ⟨oneType', fun Q E hq => ?_, fun p q hp hq => ?_⟩
  · match vs, h2, hS with
    | v₁ :: v₂ :: rest, _, hS =>
      rw [keyKind_strs hS]
      exact wpAny_pure hq
  · obtain ⟨x, t, e1⟩ := hall _ hp
    obtain ⟨y, u, e2⟩ := hall _ hq
    rw [e1, e2]
    refine ⟨decide (x.cps.toList < y.cps.toList), ?_⟩
    rw [keyLt'_oneType]
    exact oneLt_str ⟨rfl, rfl⟩
end
def strOf : Value → Str
  | .str z _ => z
  | _ => Str.empty
theorem strs_of_vals : ∀ {zs : List Str} {us : List Value}, L2.Vals (zs.map L2.V.str) us → us.map strOf = zs ∧ ∀ u ∈ us, ∃ z t, u = Value.str z t
  | [], us, r => by
    cases r
    exact ⟨rfl, fun u hu => by cases hu⟩
  | z :: zs, us, r => by
    cases r with
    | cons r1 r2 =>
      obtain ⟨t, rfl⟩ := r1
      obtain ⟨e, h⟩ := strs_of_vals r2
      refine ⟨by rw [List.map_cons, e]; rfl, fun u hu => ?_⟩
      rcases List.mem_cons.mp hu with rfl | hu
      · exact ⟨z, t, rfl⟩
      · exact h u hu
theorem vals_strOf : ∀ {us : List Value}, (∀ u ∈ us, ∃ z t, u = Value.str z t) → L2.Vals ((us.map strOf).map L2.V.str) us
  | [], _ => .nil
  | u :: us, h => by
    obtain ⟨z, t, rfl⟩ := h u (List.mem_cons_self ..)
    exact .cons ⟨t, rfl⟩ (vals_strOf fun v hv => h v (List.mem_cons_of_mem _ hv))
end MyZ
namespace MyZ
open PySem PySem.Spec PyProof.Rows L2
section
variable {X : Cx}
/-- sorted(t), t a tuple of texts: a new list of the same, in some order -/
def rSortedTup (K : PySem.W.Frag) : List V → Hp → VK → Prop := fun vs H Q => ∃ (a : Addr) (zs : List Str), vs = [V.ref a] ∧ SqT K H a (zs.map V.str) ∧
  ∀ (ys : List Str) p, ys.Perm zs → H p = none → Q (.ref p) (upd H p (.lst (ys.map V.str)))
theorem cr_sortedTup : CallR X (.builtin "sorted") (rSortedTup X.K) := by
  intro pins s σ H vs us Q I r h
  obtain ⟨a, zs, rfl, hs, q⟩ := h
  obtain ⟨its, rv, hl, hz⟩ := I.tuple hs
  obtain ⟨u, rfl, ru⟩ := vals1 r
  obtain rfl : u = Value.ref a := ru
  obtain ⟨e1, e2⟩ := strs_of_vals rv
  have hz2 : its.length ≤ sizeLine := by rw [← rv.length]; exact hz
  refine sorted_anyT hl hz2 (fun h2 h₁ b hb k => strs_sortable h2 rv.strs e2) fun out hp => ?_
  obtain ⟨n, hn⟩ := sortedAll_at s.heap its out.toArray
  have h3 : ∀ u ∈ out, ∃ z t, u = Value.str z t := fun u hu => e2 u (hp.mem_iff.mp hu)
  refine ⟨.ref (s.heap.objs.size + 1), upd H (s.heap.objs.size + 1) (.lst ((out.map strOf).map V.str)), I.laid (t' := s.toks) (fun _ _ => sortedAll_old) (Nat.le_succ _) ⟨?_, out, n, vals_strOf h3, hn⟩, rfl, q _ _ ?_ (I.hok.fresh (Nat.le_succ _))⟩
  · rw [List.length_map, List.length_map, hp.length_eq]; exact hz2
  · rw [← e1]; exact hp.map strOf
end
end MyZ
end

section
set_option Elab.async false
set_option linter.all false
set_option maxRecDepth 100000
set_option maxHeartbeats 4000000
namespace My
local macro_rules | `(tactic| walk_at "go") => `(tactic| (repeat (first
  | (refine ⟨_, rfl, ?_⟩)
  | (refine ⟨_, _, rfl, rfl, ?_⟩)
  | (refine ⟨_, _, rfl, ?_⟩)
  | (refine ⟨rfl, ?_⟩)
  | (refine Or.inl ⟨_, rfl, ?_⟩)
  | (refine ⟨_, _, _, _, rfl, rfl, L2.SqL.of (by first | assumption | exact L2.upd_same), rfl, ?_⟩)
  | (refine ⟨_, _, _, _, rfl, rfl, (by first | assumption | exact L2.upd_same), rfl, ?_⟩)
  | (refine And.intro (by first | omega | decide | (unfold L2.CPow; decide) | (unfold L2.CMul; omega) | (unfold L2.CDiv; omega)) ?_))))
open PySem PySem.Spec PyProof.Rows L2 TL MyF MyS MyW MyT MyQ MyV MyZ RZ
theorem pr_imp {α β : Type} {F G : α → β → Prop} : ∀ {as : List α} {bs : List β}, (∀ a b, F a b → G a b) → Paired F as bs → Paired G as bs
  | _, _, _, .nil => .nil
  | _, _, h, .cons r t => .cons (h _ _ r) (pr_imp h t)
theorem pr_mem {α β : Type} {F : α → β → Prop} : ∀ {as : List α} {bs : List β}, Paired F as bs → ∀ a ∈ as, ∃ b ∈ bs, F a b
  | _, _, .nil, a, h => by cases h
  | _, _, .cons (a := x) (b := y) r t, a, h => by
    rcases List.mem_cons.mp h with rfl | h
    · exact ⟨y, List.mem_cons_self .., r⟩
    · obtain ⟨b, hb, k⟩ := pr_mem t a h
      exact ⟨b, List.mem_cons_of_mem _ hb, k⟩
/-- t holds a tuple that x may give -/
def TupR (R : V → List V → Prop) (H : Hp) (t : Addr) (x : V) : Prop := ∃ zs, R x zs ∧ H t = some (.tup zs)
theorem tupsR_it {J : It} {xs : List V} {G : Hp → Prop} (w : Walk J xs.length G (YAt xs)) {g : TG} {tt : TT} {te : TE} {vs : List Nat} {σ : L2.St} {H1 : Hp} {D : Addr} {Qd : Hp → Prop} (R : V → List V → Prop) (nD : H1 D = none) (few : xs.length < sizeLine)
    (hG : ∀ H, Same H1 H → G H)
    (turn : ∀ x H2 (Ψ : V → Hp → Prop) (Θ : Hp → Prop), x ∈ xs → Same H1 H2 → (∀ t zs H5, Same H2 H5 → H5 t = some (.tup zs) → R x zs → Ψ (.ref t) H5) →
      g x (wipe σ vs) H2 fun σ2 H2 => wipe σ2 vs = wipe σ vs ∧ tt σ2 H2 fun b H3 => if b = true then te σ2 H3 Ψ else Θ H3)
    (done : ∀ H2 ts, Same H1 H2 → H2 D = some (.lst (ts.map V.ref)) → Paired (TupR R H2) ts xs → Qd H2) :
    ∃ W : Nat → Nat → Hp → Prop, (∃ m, W 0 m (upd H1 D (.lst []))) ∧ ∀ i m H, W i m H →
      (J.stop i H ∧ Qd H) ∨ (J.go i H ∧ ∃ Nx : Hp → Prop, (∀ H', Nx H' → ∃ m', m' < m ∧ W (i + 1) m' H') ∧ ∀ x H', J.yld i H x H' → g x (wipe σ vs) H' fun σ2 H2 => wipe σ2 vs = wipe σ vs ∧ tt σ2 H2 fun b H3 =>
        if b = true then te σ2 H3 fun y H4 => ∃ acc, H4 D = some (.lst acc) ∧ acc.length < sizeLine ∧ Nx (upd H4 D (.lst (acc ++ [y]))) else Nx H3) := by
  refine lc_it w (fun i H => Same H1 H ∧ i ≤ xs.length ∧ ∃ ts : List Addr, H D = some (.lst (ts.map V.ref)) ∧ Paired (TupR R H) ts (xs.take i)) ⟨same_new nD, Nat.zero_le _, [], upd_same, .nil⟩ (fun i H _ h => hG H h.1) ?_
    (fun H h => by
      obtain ⟨s, _, ts, hd, tp⟩ := h
      rw [List.take_length] at tp
      exact done H ts s hd tp)
  rintro i x H H' hi ⟨s, hi2, ts, hd, tp⟩ ⟨rfl, hx⟩
  refine turn x H' _ _ (List.mem_of_getElem? hx) s fun t zs H5 s5 ht hR => ?_
  have hd5 := s5 D _ hd
  have nt : t ≠ D := by
    rintro rfl
    rw [ht] at hd5
    cases hd5
  have keep : ∀ b o, H5 b = some o → b ≠ D → upd H5 D (.lst (ts.map V.ref ++ [V.ref t])) b = some o := fun b o e ne => by rw [upd_ne ne]; exact e
  have s6 : Same H1 (upd H5 D (.lst (ts.map V.ref ++ [V.ref t]))) := fun b o e => keep b o (s5 b o (s b o e)) (ne_of_none e nD)
  refine ⟨_, hd5, ?_, s6, hi, ts ++ [t], by rw [upd_same, List.map_append]; rfl, ?_⟩
  · rw [List.length_map, tp.length, List.length_take]
    omega
  · rw [List.take_add_one, hx]
    refine paired_snoc (pr_imp (fun a b q => ?_) tp) ⟨zs, hR, keep t _ ht nt⟩
    obtain ⟨ys, hy, e⟩ := q
    refine ⟨ys, hy, keep a _ (s5 _ _ e) fun z => ?_⟩
    rw [z, hd] at e
    cases e
theorem tupsR_seq {K : PySem.W.Frag} {a : Addr} {xs : List V} {i : Nat} {g : TG} {tt : TT} {te : TE} {vs : List Nat} {σ : L2.St} {H : Hp} {Q : V → Hp → Prop} (R : V → List V → Prop) (hσ : σ[i]? = some (some (.ref a))) (hS : Sq K H a xs) (few : xs.length < sizeLine)
    (turn : ∀ x H2 (Ψ : V → Hp → Prop) (Θ : Hp → Prop), x ∈ xs → Same H H2 → (∀ t zs H5, Same H2 H5 → H5 t = some (.tup zs) → R x zs → Ψ (.ref t) H5) →
      g x (wipe σ vs) H2 fun σ2 H2 => wipe σ2 vs = wipe σ vs ∧ tt σ2 H2 fun b H3 => if b = true then te σ2 H3 Ψ else Θ H3)
    (done : ∀ H2 D ts, Same H H2 → H D = none → H2 D = some (.lst (ts.map V.ref)) → Paired (TupR R H2) ts xs → Q (.ref D) H2) : tLc (iSq K i) g tt te vs σ H Q := by
  rcases hS with hS | hS
  · exact .inl ⟨_, hσ, a, rfl, ⟨xs, hS⟩, fun D nD => tupsR_it (Qd := fun H2 => Q (.ref D) H2) walk_list R nD few (fun H2 s2 => sqL_same hS s2) turn fun H2 ts s2 h2 tp => done H2 D ts s2 nD h2 tp⟩
  · exact .inr ⟨_, hσ, a, rfl, ⟨xs, hS⟩, fun D nD => tupsR_it (Qd := fun H2 => Q (.ref D) H2) walk_tup R nD few (fun H2 s2 => sqT_same hS s2) turn fun H2 ts s2 h2 tp => done H2 D ts s2 nD h2 tp⟩
theorem cat_snoc {K : PySem.W.Frag} {H : Hp} {a b : Addr} {xs : List V} {y : V} {Q : V → Hp → Prop} (h1 : SqT K H a xs) (h2 : H b = some (.tup [y])) (few : xs.length + 1 ≤ sizeLine) (k : ∀ H' p, Same H H' → H' p = some (.tup (xs ++ [y])) → Q (.ref p) H') :
    rCatA K (.ref a) (.ref b) H Q :=
  ⟨a, b, xs, [y], rfl, rfl, h1, SqT.of h2, few, fun e => k H b (same_refl H) (by rw [e]; exact h2), fun _ e => absurd e (by simp), fun _ _ p np => k _ p (same_new np) upd_same⟩
theorem perm_refs {ys : List V} {ts : List Addr} (pm : ys.Perm (ts.map V.ref)) : ∃ us : List Addr, ys = us.map V.ref ∧ us.Perm ts := by
  have go : ∀ l : List V, (∀ x ∈ l, ∃ z, x = V.ref z) → l = (l.filterMap fun | .ref z => some z | _ => none).map V.ref := by
    intro l
    induction l with
    | nil => intro _; rfl
    | cons x l ih =>
      intro h
      obtain ⟨z, rfl⟩ := h x (List.mem_cons_self ..)
      have e := ih fun y hy => h y (List.mem_cons_of_mem _ hy)
      show V.ref z :: l = V.ref z :: (l.filterMap fun | .ref z => some z | _ => none).map V.ref
      rw [← e]
  refine ⟨_, go ys fun x hx => ?_, ?_⟩
  · obtain ⟨z, _, e⟩ := List.mem_map.mp (pm.mem_iff.mp hx)
    exact ⟨z, e.symm⟩
  · have q := pm.filterMap (fun | V.ref z => some z | _ => none)
    have e : (ts.map V.ref).filterMap (fun | V.ref z => some z | _ => none) = ts := by
      rw [List.filterMap_map]
      exact List.filterMap_some
    rw [e] at q
    exact q
theorem strs_inj : ∀ {a b : List Str}, a.map V.str = b.map V.str → a = b
  | [], [], _ => rfl
  | [], _ :: _, h => by cases h
  | _ :: _, [], h => by cases h
  | x :: a, y :: b, h => by
    rw [List.map_cons, List.map_cons] at h
    injection h with h1 h2
    injection h1 with h1
    rw [h1, strs_inj h2]
theorem pow3 {i : Nat} (h : i ≤ 6) : 3 ^ i ≤ 729 := Nat.le_trans (Nat.pow_le_pow_right (by decide) h) (by decide)
/-- signed parts of the names -/
def PartAt (H : Hp) (ns : List Str) (t : Addr) : Prop := ∃ ps ss : List Str, H t = some (.tup (ps.map V.str)) ∧ Sgs ps ss ∧ ss.Sublist ns
def itemsAt (H : Hp) : V → List V
  | .ref t => match H t with
    | some (.tup xs) => xs
    | _ => []
  | _ => []
theorem itemsAt_of {H : Hp} {t : Addr} {xs : List V} (h : H t = some (.tup xs)) : itemsAt H (.ref t) = xs := by
  show (match H t with | some (.tup xs) => xs | _ => []) = xs
  rw [h]
section
variable {P : Program} {w : World} {K : PySem.W.Frag} {mg : Str → Option Value} {base : Heap}
/-! ### _law_parts -/
def rAddS : V → V → Hp → VK → Prop := fun x y H Q => ∃ i j, x = .str i ∧ y = .str j ∧ i.length + j.length ≤ sizeLine ∧ Q (.str (i ++ j)) H
def rTupOf (K : PySem.W.Frag) : List V → Hp → VK → Prop := fun xs H Q => ∃ p ys, xs = [.ref p] ∧ ((SqL K H p ys ∧ ∀ l, H l = none → Q (.ref l) (upd H l (.tup ys))) ∨ (SqT K H p ys ∧ Q (.ref p) H))
theorem cr_tupOf {X : Cx} : CallR X (.type "tuple") (rTupOf X.K) := call_tuple_of
abbrev sParts : Stmt := top 55
def spParts (K : PySem.W.Frag) : Sp := fun vs H Q _ => ∃ (q : Addr) (ns : List Str), vs = [.ref q] ∧ SqL K H q (ns.map V.str) ∧ ns.length ≤ 6 ∧ ns.Nodup ∧ ns.all lowZ = true ∧
  ∀ (H' : Hp) (r : Addr) (ts : List Addr), Same H H' → H r = none → H' r = some (.lst (ts.map V.ref)) → ts.length ≤ 729 → (∀ t ∈ ts, ∃ ps : List Str, H' t = some (.tup (ps.map V.str)) ∧ ∀ x ∈ ps, oppS x ∉ ps) → Q (.ref r) H'
theorem sc_parts : FnScope ["_law_names_here", "_law_found", "_law_name", "_law_part"] ["_law_names_here"] (defScope sParts) := ⟨rfl, rfl, rfl, by decide +kernel, rfl, by decide +kernel, by decide +kernel⟩
theorem ok_parts {f : Addr} {fd : FuncData} (G : Fun K "_law_parts" "_law_parts" sParts f fd) (hsorted : mg "sorted" = none) (htuple : mg "tuple" = none) : FnOk P w K mg base CX0 1 f fd ["_law_names_here"] (spParts K) := by
  have sc := sc_parts
  refine G.ok sc (fun vs H Q E h => ?_) (fun cdv A outer s H vs Q E hr h => ?_)
  · obtain ⟨_, _, rfl, _⟩ := h
    rfl
  · obtain ⟨q, ns, rfl, hS, h6, nd, lo, k⟩ := h
    have big : (100000 : Nat) < sizeLine := by decide
    have hu := hu_of hr
    refine ⟨_, pss_cons (ps_set (i := 1) sc.nd rfl (Or.inl rfl) (pe_lst (pa_cons (pe_tup pa_nil) pa_nil)))
      (pss_cons (ps_for PassesOwn.never rfl (pi_list (pv 0)) (pg_name (i := 2) sc.nd rfl (Or.inr rfl))
        (pss_one (ps_set (i := 1) sc.nd rfl (Or.inl rfl) (pe_op op_cat (pe_op op_cat (pv 1)
          (pe_lc (own := [("_law_part", 3)]) (g := gName 3) (tt := tYes) (te := tOp (rCatA K) (tVar 3) (tTup (tCons (tVar 2) tNil))) rfl sc.nd (pi_sq (pv 1)) (blkOk_by (N := ["_law_names_here", "_law_found", "_law_name", "_law_part"]) (sc := defScope sParts) (by decide +kernel)) (fun _ _ _ _ _ => pg_name (i := 3) sc.nd rfl (Or.inl rfl)) (fun _ _ _ _ _ => pts_nil)
            (fun _ _ _ _ _ => pe_op op_catA (pv 3) (pe_tup (pa_cons (pv 2) pa_nil)))))
          (pe_lc (own := [("_law_part", 3)]) (g := gName 3) (tt := tYes) (te := tOp (rCatA K) (tVar 3) (tTup (tCons (tOp rAddS (tC (.str dash)) (tVar 2)) tNil))) rfl sc.nd (pi_sq (pv 1)) (blkOk_by (N := ["_law_names_here", "_law_found", "_law_name", "_law_part"]) (sc := defScope sParts) (by decide +kernel)) (fun _ _ _ _ _ => pg_name (i := 3) sc.nd rfl (Or.inl rfl)) (fun _ _ _ _ _ => pts_nil)
            (fun _ _ _ _ _ => pe_op op_catA (pv 3) (pe_tup (pa_cons (pe_op op_add_str pe_str (pv 2)) pa_nil))))))))
      (pss_one (ps_ret (pe_callB (cr_sortedTT (Nat.lt_of_le_of_lt (Nat.add_le_add_left (by decide : 3 ≤ 64) _) hr.units)) (by rfl) hsorted boot_sorted (pa_cons
          (pe_lc (own := [("_law_part", 3)]) (g := gName 3) (tt := tYes) (te := tCB (rTupOf K) (tCons (tCB (rSortedTup K) (tCons (tVar 3) tNil)) tNil)) rfl sc.nd (pi_sq (pv 1)) (blkOk_by (N := ["_law_names_here", "_law_found", "_law_name", "_law_part"]) (sc := defScope sParts) (by decide +kernel)) (fun _ _ _ _ _ => pg_name (i := 3) sc.nd rfl (Or.inl rfl)) (fun _ _ _ _ _ => pts_nil)
            (fun _ _ _ _ _ => pe_callTy cr_tupOf (by rfl) htuple boot_tuple (pa_cons (pe_callB cr_sortedTup (by rfl) hsorted boot_sorted (pa_cons (pv 3) pa_nil)) pa_nil))) pa_nil))))), ?_⟩
    refine ⟨(by show 0 ≤ sizeLine; omega), fun t0 n0 => ?_⟩
    refine ⟨(by show 1 ≤ sizeLine; omega), fun F nF => ?_⟩
    have s0 := same_trans (same_new (o := .tup []) n0) (same_new (o := .lst [.ref t0]) nF)
    have ht0 := (same_new (o := .lst [.ref t0]) nF) _ _ (upd_same (H := H) (a := t0) (o := .tup []))
    refine ⟨_, rfl, q, rfl, ⟨_, sqL_same hS s0⟩, ?_⟩
    refine for_list (xs := ns.map V.str) (fun i σ Hc => i ≤ ns.length ∧ ∃ (F t0 : Addr) (r : List Addr) (v : Option V), σ = [some (.ref q), some (.ref F), v, none] ∧ Same H Hc ∧ H F = none ∧ Hc F = some (.lst ((t0 :: r).map V.ref)) ∧ (t0 :: r).length = 3 ^ i ∧ Hc t0 = some (.tup []) ∧ ∀ t ∈ t0 :: r, PartAt Hc (ns.take i) t) ?_ ?_ ?_ ?_
    · refine ⟨Nat.zero_le _, F, t0, [], none, rfl, s0, same_free (same_new n0) nF, upd_same, rfl, ht0, fun t ht => ?_⟩
      rw [List.mem_singleton.mp ht]
      exact ⟨[], [], ht0, .nil, List.nil_sublist _⟩
    · rintro i σ Hc hi ⟨_, F, t0, r, v, rfl, sm, _⟩
      exact sqL_same hS sm
    · rintro i x σ Hc hx ⟨hi, F, t0, r, v, rfl, sm, nF, hF, l3, ht0, parts⟩
      have hi2 : i < ns.length := by
        have := (List.getElem?_eq_some_iff.mp hx).1
        rw [List.length_map] at this
        exact this
      rw [List.getElem?_map, List.getElem?_eq_getElem hi2] at hx
      cases hx
      have lown : lowZ ns[i] = true := List.all_eq_true.mp lo _ (List.getElem_mem hi2)
      have ln := low_parts lown
      have l729 : (t0 :: r).length ≤ 729 := by
        rw [l3]
        exact pow3 (by omega)
      have l243 : (t0 :: r).length * 3 ≤ 729 := by
        rw [l3, ← Nat.pow_succ]
        exact pow3 (by omega)
      have got : ∀ (y : Str) (Ha Hb : Hp) (ts : List Addr), Sg y ns[i] → Same Hc Ha → Same Ha Hb → Paired (TupR (fun x zs => zs = itemsAt Hc x ++ [.str y]) Hb) ts ((t0 :: r).map V.ref) → ts.length = (t0 :: r).length ∧ ∀ t ∈ ts, PartAt Hb (ns.take (i + 1)) t := fun y Ha Hb ts sg sa sb pr => by
        refine ⟨by rw [pr.length, List.length_map], fun t ht => ?_⟩
        obtain ⟨x, hx, zs, e, hz⟩ := pr_mem pr t ht
        obtain ⟨u, hu, rfl⟩ := List.mem_map.mp hx
        obtain ⟨ps, ss, hp, sgs, sub⟩ := parts u hu
        rw [itemsAt_of hp] at e
        refine ⟨ps ++ [y], ss ++ [ns[i]], by rw [hz, e, List.map_append]; rfl, sgs.snoc sg, ?_⟩
        rw [List.take_add_one, List.getElem?_eq_getElem hi2]
        exact sub.append (List.Sublist.refl _)
      refine ⟨_, rfl, ?_⟩
      dsimp only [tSeq, tAsg, tRet, tCB, tCons, tNil, tCall, tNext]
      refine tupsR_seq (fun x zs => zs = itemsAt Hc x ++ [.str ns[i]]) rfl (.inl (SqL.of hF)) (by rw [List.length_map]; omega) (fun x H2 Ψ Θ hx s2 yes => ?_) (fun H2 D1 ts1 s2 nD1 h2 pr1 => ?_)
      · obtain ⟨u, hu, rfl⟩ := List.mem_map.mp hx
        obtain ⟨ps, ss, hp, sgs, sub⟩ := parts u hu
        have lps : ps.length ≤ 6 := by
          have := sub.length_le
          rw [List.length_take] at this
          have := sgs.len
          omega
        walk_at "go"
        refine ⟨(by show 1 ≤ sizeLine; omega), fun b nb => ?_⟩
        refine cat_snoc (SqT.of ((same_new nb) _ _ (s2 _ _ hp))) upd_same (by rw [List.length_map]; omega) fun H5 p s5 hp5 => ?_
        exact yes p _ H5 (same_trans (same_new nb) s5) hp5 (by rw [itemsAt_of hp])
      · obtain ⟨l1, parts1⟩ := got _ _ _ ts1 (.inl rfl) (same_refl _) s2 pr1
        refine ⟨F, D1, _, _, rfl, rfl, s2 _ _ hF, h2, by rw [List.length_map, List.length_map]; omega, fun D2 nD2 => ?_⟩
        have s3 := same_trans s2 (same_new (o := .lst ((t0 :: r).map V.ref ++ ts1.map V.ref)) nD2)
        have hD2 : upd H2 D2 (.lst ((t0 :: r).map V.ref ++ ts1.map V.ref)) D2 = some (.lst ((t0 :: r).map V.ref ++ ts1.map V.ref)) := upd_same
        have sp3 := same_new (o := .lst ((t0 :: r).map V.ref ++ ts1.map V.ref)) nD2
        generalize upd H2 D2 (.lst ((t0 :: r).map V.ref ++ ts1.map V.ref)) = H3 at s3 hD2 sp3
        refine tupsR_seq (fun x zs => zs = itemsAt Hc x ++ [.str (dash ++ ns[i])]) rfl (.inl (SqL.of (s3 _ _ hF))) (by rw [List.length_map]; omega) (fun x H4 Ψ Θ hx s4 yes => ?_) (fun H4 D3 ts2 s4 nD3 h4 pr2 => ?_)
        · obtain ⟨u, hu, rfl⟩ := List.mem_map.mp hx
          obtain ⟨ps, ss, hp, sgs, sub⟩ := parts u hu
          have lps : ps.length ≤ 6 := by
            have := sub.length_le
            rw [List.length_take] at this
            have := sgs.len
            omega
          walk_at "go"
          refine ⟨?_, (by show 1 ≤ sizeLine; omega), fun b nb => ?_⟩
          · show 1 + ns[i].length ≤ sizeLine
            have := ln.2.1
            omega
          refine cat_snoc (SqT.of ((same_new nb) _ _ (s4 _ _ (s3 _ _ hp)))) upd_same (by rw [List.length_map]; omega) fun H5 p s5 hp5 => ?_
          exact yes p _ H5 (same_trans (same_new nb) s5) hp5 (by rw [itemsAt_of hp])
        · obtain ⟨l2, parts2⟩ := got _ _ _ ts2 (.inr rfl) s3 s4 pr2
          refine ⟨D2, D3, _, _, rfl, rfl, s4 _ _ hD2, h4, by rw [List.length_append, List.length_map, List.length_map, List.length_map]; omega, fun D4 nD4 => ?_⟩
          have sp5 := same_new (o := .lst ((t0 :: r).map V.ref ++ ts1.map V.ref ++ ts2.map V.ref)) nD4
          have sA := same_trans s4 sp5
          have sB := same_trans sp3 sA
          refine ⟨hi2, D4, t0, r ++ ts1 ++ ts2, _, rfl, same_trans sm (same_trans s3 sA), same_free sm (same_free s3 (same_free s4 nD4)), ?_, ?_, sA _ _ (s3 _ _ ht0), fun t ht => ?_⟩
          · rw [upd_same]
            simp
          · rw [Nat.pow_succ, ← l3, List.length_cons, List.length_append, List.length_append, l1, l2, List.length_cons]
            omega
          · have keepP : ∀ {Ha Hb : Hp} {ms ms' : List Str} {t : Addr}, PartAt Ha ms t → Same Ha Hb → ms.Sublist ms' → PartAt Hb ms' t := fun {Ha Hb ms ms' t} pa sab sub => by
              obtain ⟨ps, ss, hp, sgs, su⟩ := pa
              exact ⟨ps, ss, sab _ _ hp, sgs, su.trans sub⟩
            rcases List.mem_cons.mp ht with rfl | ht
            · exact keepP (parts _ (List.mem_cons_self ..)) (same_trans s3 sA) (by rw [List.take_add_one]; exact List.sublist_append_left ..)
            · rcases List.mem_append.mp ht with ht | ht
              · rcases List.mem_append.mp ht with ht | ht
                · exact keepP (parts _ (List.mem_cons_of_mem _ ht)) (same_trans s3 sA) (by rw [List.take_add_one]; exact List.sublist_append_left ..)
                · exact keepP (parts1 t ht) sB (List.Sublist.refl _)
              · exact keepP (parts2 t ht) sp5 (List.Sublist.refl _)
    · rintro σ Hc ⟨_, F, t0, r, v, rfl, sm, nF, hF, l3, ht0, parts⟩
      rw [List.length_map] at l3 parts
      rw [List.take_length] at parts
      have l729 : (t0 :: r).length ≤ 729 := by
        rw [l3]
        exact pow3 h6
      dsimp only [tSeq, tAsg, tRet, tCB, tCons, tNil, tCall, tNext]
      refine tupsR_seq (fun x zs => ∃ ys : List Str, zs = ys.map V.str ∧ (∀ ps : List Str, itemsAt Hc x = ps.map V.str → ys.Perm ps)) rfl (.inl (SqL.of hF)) (by rw [List.length_map]; omega) (fun x H2 Ψ Θ hx s2 yes => ?_) (fun H2 D1 ts1 s2 nD1 h2 pr1 => ?_)
      · obtain ⟨u, hu, rfl⟩ := List.mem_map.mp hx
        obtain ⟨ps, ss, hp, sgs, sub⟩ := parts u hu
        walk_at "go"
        refine ⟨u, ps, rfl, SqT.of (s2 _ _ hp), fun ys a pm na => ?_⟩
        refine ⟨a, _, rfl, .inl ⟨SqL.of upd_same, fun l nl => ?_⟩⟩
        refine yes l _ _ (same_trans (same_new na) (same_new nl)) upd_same ⟨ys, rfl, fun ps2 e => ?_⟩
        rw [itemsAt_of hp] at e
        rw [← strs_inj e]
        exact pm
      · have l1 : ts1.length = (t0 :: r).length := by rw [pr1.length, List.length_map]
        have each : ∀ t ∈ ts1, ∃ ps : List Str, H2 t = some (.tup (ps.map V.str)) ∧ ∀ x ∈ ps, oppS x ∉ ps := fun t ht => by
          obtain ⟨x, hx, zs, ⟨ys, rfl, pm⟩, hz⟩ := pr_mem pr1 t ht
          obtain ⟨u, hu, rfl⟩ := List.mem_map.mp hx
          obtain ⟨ps, ss, hp, sgs, sub⟩ := parts u hu
          have pm2 := pm ps (itemsAt_of hp)
          have low : ∀ s ∈ ss, lowZ s = true := fun s hs => List.all_eq_true.mp lo s (sub.subset hs)
          have hs := sgs_has sgs (nd.sublist sub) low
          refine ⟨ys, hz, fun x hx ho => List.any_eq_false.mp hs x (pm2.mem_iff.mp hx) (decide_eq_true (pm2.mem_iff.mp ho))⟩
        cases pr1 with
        | @cons t1 x1 ts1 xs1 r1 rt =>
          obtain ⟨zs, ⟨ys, rfl, pm⟩, hz⟩ := r1
          have ey : ys = [] := List.Perm.eq_nil (pm [] (itemsAt_of ht0))
          subst ey
          refine ⟨D1, t1, ts1.map V.ref, rfl, SqL.of h2, hz, fun x hx => ?_, fun ys p pm2 np => ?_⟩
          · obtain ⟨t, ht, rfl⟩ := List.mem_map.mp hx
            obtain ⟨ps, e, _⟩ := each t (List.mem_cons_of_mem _ ht)
            exact ⟨t, ps, rfl, e⟩
          · obtain ⟨us, rfl, pu⟩ := perm_refs (ts := t1 :: ts1) pm2
            have s3 := same_new (o := .lst (us.map V.ref)) np
            refine k _ p us (same_trans sm (same_trans s2 s3)) (same_free sm (same_free s2 np)) upd_same ?_ fun t ht => ?_
            · rw [pu.length_eq, l1]
              exact l729
            · obtain ⟨ps, e, q⟩ := each t (pu.mem_iff.mp ht)
              exact ⟨ps, s3 _ _ e, q⟩
end
end My
end

section
set_option Elab.async false
set_option linter.all false
set_option maxRecDepth 100000
set_option maxHeartbeats 4000000
namespace My
local macro_rules | `(tactic| walk_at "go") => `(tactic| (repeat (first
  | (refine ⟨_, rfl, ?_⟩)
  | (refine ⟨_, _, rfl, rfl, ?_⟩)
  | (refine ⟨_, _, rfl, ?_⟩)
  | (refine ⟨rfl, ?_⟩)
  | (refine Or.inl ⟨_, rfl, ?_⟩)
  | (refine ⟨_, _, _, _, rfl, rfl, L2.SqL.of (by first | assumption | exact L2.upd_same), rfl, ?_⟩)
  | (refine ⟨_, _, _, _, rfl, rfl, (by first | assumption | exact L2.upd_same), rfl, ?_⟩)
  | (refine And.intro (by first | omega | decide | (unfold L2.CPow; decide) | (unfold L2.CMul; omega) | (unfold L2.CDiv; omega)) ?_))))
open PySem PySem.Spec PyProof.Rows L2 TL MyF MyS MyW MyT MyQ MyV MyZ RZ
/-! ### turning and sending: the mathematics -/
theorem Good.ord {ns ys : List Str} (h : Good ns ys) : InOrd ys ys := ⟨nodup_of_map bareS h.one, h.up, fun _ => Iff.rfl, Nat.le_refl _⟩
theorem turn_turn {fs : List Str} {y : Str} (l : litS y = true) : turnS fs (turnS fs y) = y := by
  unfold turnS
  by_cases c : bareS y ∈ fs
  · rw [if_pos c, if_pos (by rw [bare_opp l]; exact c), opp_opp l]
  · rw [if_neg c, if_neg c]
theorem turn_nil (y : Str) : turnS [] y = y := if_neg (by simp)
theorem turn_one {fs : List Str} {y : Str} : turnS fs y = y ∨ turnS fs y = oppS y := by
  unfold turnS
  by_cases c : bareS y ∈ fs
  · exact .inr (if_pos c)
  · exact .inl (if_neg c)
theorem turn_paired (fs : List Str) : ∀ ys : List Str, Paired (fun c y => c = y ∨ c = oppS y) (ys.map (turnS fs)) ys
  | [] => .nil
  | y :: ys => .cons turn_one (turn_paired fs ys)
theorem turn_back {fs ys rs : List Str} (ly : ∀ y ∈ ys, litS y = true) (io : InOrd rs (ys.map (turnS fs))) (y : Str) : y ∈ rs.map (turnS fs) ↔ y ∈ ys := by
  constructor
  · intro h
    obtain ⟨z, hz, rfl⟩ := List.mem_map.mp h
    obtain ⟨x, hx, rfl⟩ := List.mem_map.mp ((io.mem z).mp hz)
    rw [turn_turn (ly x hx)]
    exact hx
  · intro h
    exact List.mem_map.mpr ⟨turnS fs y, (io.mem _).mpr (List.mem_map.mpr ⟨y, h, rfl⟩), turn_turn (ly y h)⟩
theorem merge_dm : ∀ (ps qs : List (Str × Str)), ((qs ++ ps).map (·.1)).Nodup → mergeK (dm qs) (dm ps) = dm (qs ++ ps)
  | [], qs, _ => by
    rw [List.append_nil]
    rfl
  | p :: ps, qs, h => by
    have nq : ¬ ((dm qs).any fun kv => decide (kv.1 = Sum.inr p.1)) = true := by
      intro z
      obtain ⟨kv, hk, e⟩ := List.any_eq_true.mp z
      obtain ⟨q, hq, rfl⟩ := List.mem_map.mp hk
      have e2 := of_decide_eq_true e
      injection e2 with e3
      rw [List.map_append, List.map_cons] at h
      exact (List.nodup_append.mp h).2.2 _ (List.mem_map.mpr ⟨q, hq, rfl⟩) _ (List.mem_cons_self ..) e3
    have e : putK (dm qs) (Sum.inr p.1) (.str p.2) = dm (qs ++ [p]) := by
      unfold putK
      rw [if_neg nq]
      unfold dm
      rw [List.map_append]
      rfl
    show mergeK (putK (dm qs) (Sum.inr p.1) (.str p.2)) (dm ps) = _
    rw [e, merge_dm ps (qs ++ [p]) (by rw [List.append_assoc]; exact h), List.append_assoc]
    rfl
theorem merge_dm0 {ps : List (Str × Str)} (h : (ps.map (·.1)).Nodup) : mergeK [] (dm ps) = dm ps := merge_dm ps [] h
/-- the word that s is sent to -/
def rnOf (ps : List (Str × Str)) (s : Str) : Str := match valV (dm ps) (Sum.inr s) with
  | some (.str x) => x
  | _ => Str.empty
theorem rnOf_eq {ps : List (Str × Str)} (n : (ps.map (·.1)).Nodup) {p : Str × Str} (h : p ∈ ps) : rnOf ps p.1 = p.2 := by
  unfold rnOf
  rw [valV_dm n h]
theorem rnOf_val {ps : List (Str × Str)} (n : (ps.map (·.1)).Nodup) {p : Str × Str} (h : p ∈ ps) : valV (dm ps) (Sum.inr p.1) = some (.str (rnOf ps p.1)) := by
  rw [rnOf_eq n h]
  exact valV_dm n h
structure Sent (ns : List Str) (ps : List (Str × Str)) : Prop where
  kn : (ps.map (·.1)).Nodup
  vn : (ps.map (·.2)).Nodup
  low : ∀ p ∈ ps, lowZ p.1 = true ∧ lowZ p.2 = true
  mem : ∀ s ∈ ns, ∃ p ∈ ps, p.1 = s
  few : ps.length ≤ 6
def swapP (p : Str × Str) : Str × Str := (p.2, p.1)
theorem swap_fst (ps : List (Str × Str)) : (ps.map swapP).map (·.1) = ps.map (·.2) := by
  rw [List.map_map]
  rfl
theorem swap_snd (ps : List (Str × Str)) : (ps.map swapP).map (·.2) = ps.map (·.1) := by
  rw [List.map_map]
  rfl
theorem Sent.val {ns : List Str} {ps : List (Str × Str)} (S : Sent ns ps) {s : Str} (h : s ∈ ns) : valV (dm ps) (Sum.inr s) = some (.str (rnOf ps s)) ∧ lowZ (rnOf ps s) = true ∧ rnOf ps s ∈ ps.map (·.2) := by
  obtain ⟨p, hp, rfl⟩ := S.mem s h
  rw [rnOf_val S.kn hp, rnOf_eq S.kn hp]
  exact ⟨rfl, (S.low p hp).2, List.mem_map.mpr ⟨p, hp, rfl⟩⟩
theorem Sent.inj {ns : List Str} {ps : List (Str × Str)} (S : Sent ns ps) {s t : Str} (h : s ∈ ns) (k : t ∈ ns) (e : rnOf ps s = rnOf ps t) : s = t := by
  obtain ⟨p, hp, rfl⟩ := S.mem s h
  obtain ⟨q, hq, rfl⟩ := S.mem t k
  rw [rnOf_eq S.kn hp, rnOf_eq S.kn hq] at e
  rw [inj_of_nodup S.vn hp hq e]
theorem Sent.back {ns : List Str} {ps : List (Str × Str)} (S : Sent ns ps) {s : Str} (h : s ∈ ns) : valV (dm (ps.map swapP)) (Sum.inr (rnOf ps s)) = some (.str s) ∧ rnOf (ps.map swapP) (rnOf ps s) = s := by
  obtain ⟨p, hp, rfl⟩ := S.mem s h
  have n2 : ((ps.map swapP).map (·.1)).Nodup := by rw [swap_fst]; exact S.vn
  have h2 : swapP p ∈ ps.map swapP := List.mem_map.mpr ⟨p, hp, rfl⟩
  rw [rnOf_eq S.kn hp]
  exact ⟨valV_dm n2 h2, rnOf_eq n2 h2⟩
theorem Good.names {ns ys : List Str} (g : Good ns ys) (lo : ns.all lowZ = true) {y : Str} (h : y ∈ ys) : bareS y ∈ ns := by
  obtain ⟨s, hs, k⟩ := g.lit y h
  rw [k.bare (List.all_eq_true.mp lo s hs)]
  exact hs
def sendY (ps : List (Str × Str)) (y : Str) : Str := sendS (rnOf ps (bareS y)) y
theorem send_sg (x z : Str) : Sg (sendS x z) x := by
  unfold sendS
  by_cases n : negS z = true
  · rw [if_pos n]
    exact .inr rfl
  · rw [if_neg n]
    exact .inl rfl
theorem send_sgs (f : Str → Str) : ∀ ys : List Str, Sgs (ys.map fun y => sendS (f y) y) (ys.map f)
  | [] => .nil
  | y :: ys => .cons (send_sg _ _) (send_sgs f ys)
theorem nodup_map_on {α β : Type} {f : α → β} : ∀ {l : List α}, l.Nodup → (∀ x ∈ l, ∀ y ∈ l, f x = f y → x = y) → (l.map f).Nodup
  | [], _, _ => List.nodup_nil
  | a :: l, n, h => by
    obtain ⟨n1, n2⟩ := List.nodup_cons.mp n
    rw [List.map_cons]
    refine List.nodup_cons.mpr ⟨fun z => ?_, nodup_map_on n2 fun x hx y hy => h x (List.mem_cons_of_mem _ hx) y (List.mem_cons_of_mem _ hy)⟩
    obtain ⟨b, hb, e⟩ := List.mem_map.mp z
    have := h b (List.mem_cons_of_mem _ hb) a (List.mem_cons_self ..) e
    exact n1 (this ▸ hb)
theorem Sent.good {ns ys rs : List Str} {ps : List (Str × Str)} (S : Sent ns ps) (g : Good ns ys) (lo : ns.all lowZ = true) (io : InOrd rs (ys.map (sendY ps))) : Good (ps.map (·.2)) rs ∧ rs.length = ys.length := by
  have sg : Sgs (ys.map (sendY ps)) (ys.map fun y => rnOf ps (bareS y)) := send_sgs (fun y => rnOf ps (bareS y)) ys
  have nd : (ys.map fun y => rnOf ps (bareS y)).Nodup := nodup_map_on (nodup_of_map bareS g.one) fun x hx y hy e => inj_of_nodup g.one hx hy (S.inj (g.names lo hx) (g.names lo hy) e)
  obtain ⟨a, b⟩ := good_of (ns := ps.map (·.2)) sg nd (fun s hs => by
    obtain ⟨y, hy, rfl⟩ := List.mem_map.mp hs
    exact (S.val (g.names lo hy)).2.2) (List.all_eq_true.mpr fun s hs => by
    obtain ⟨p, hp, rfl⟩ := List.mem_map.mp hs
    exact (S.low p hp).2) io
  exact ⟨a, by rw [b, List.length_map]⟩
theorem send_back {x y : Str} (lx : lowZ x = true) : sendS (bareS y) (sendS x y) = y := by
  by_cases n : negS y = true
  · have e : sendS x y = dash ++ x := if_pos n
    rw [e]
    have e2 : sendS (bareS y) (dash ++ x) = dash ++ bareS y := if_pos (neg_dash x)
    rw [e2, dash_bare n]
  · have e : sendS x y = x := if_neg n
    rw [e]
    have e2 : sendS (bareS y) x = bareS y := if_neg (low_neg lx)
    rw [e2, bare_of_pos n]
theorem Sent.there {ns ys rs : List Str} {ps : List (Str × Str)} (S : Sent ns ps) (g : Good ns ys) (lo : ns.all lowZ = true) (io : InOrd rs (ys.map (sendY ps))) {z : Str} (h : z ∈ rs) :
    ∃ y ∈ ys, z = sendY ps y ∧ valV (dm (ps.map swapP)) (Sum.inr (bareS z)) = some (.str (rnOf (ps.map swapP) (bareS z))) ∧ (rnOf (ps.map swapP) (bareS z)).length ≤ 8 ∧ sendS (rnOf (ps.map swapP) (bareS z)) z = y := by
  obtain ⟨y, hy, rfl⟩ := List.mem_map.mp ((io.mem z).mp h)
  have hn := g.names lo hy
  obtain ⟨v1, v2, v3⟩ := S.val hn
  obtain ⟨b1, b2⟩ := S.back hn
  have eb : bareS (sendY ps y) = rnOf ps (bareS y) := (send_sg _ _).bare v2
  refine ⟨y, hy, rfl, ?_, ?_, ?_⟩
  · rw [eb, b1, b2]
  · rw [eb, b2]
    exact (low_parts (List.all_eq_true.mp lo _ hn)).2.1
  · rw [eb, b2]
    exact send_back v2
theorem Sent.back_mem {ns ys rs : List Str} {ps : List (Str × Str)} (S : Sent ns ps) (g : Good ns ys) (lo : ns.all lowZ = true) (io : InOrd rs (ys.map (sendY ps))) (y : Str) : y ∈ rs.map (sendY (ps.map swapP)) ↔ y ∈ ys := by
  constructor
  · intro h
    obtain ⟨z, hz, rfl⟩ := List.mem_map.mp h
    obtain ⟨y, hy, _, _, _, e⟩ := S.there g lo io hz
    show sendS (rnOf (ps.map swapP) (bareS z)) z ∈ ys
    rw [e]
    exact hy
  · intro h
    have hz : sendY ps y ∈ rs := (io.mem _).mpr (List.mem_map.mpr ⟨y, h, rfl⟩)
    have hn := g.names lo h
    obtain ⟨v1, v2, v3⟩ := S.val hn
    obtain ⟨b1, b2⟩ := S.back hn
    refine List.mem_map.mpr ⟨_, hz, ?_⟩
    show sendS (rnOf (ps.map swapP) (bareS (sendY ps y))) (sendY ps y) = y
    have eb : bareS (sendY ps y) = rnOf ps (bareS y) := (send_sg _ _).bare v2
    rw [eb, b2]
    exact send_back v2
/-- the few that a clause needs -/
def fewP (ps : List (Str × Str)) (ys : List Str) : List (Str × Str) := ys.map fun y => (bareS y, rnOf ps (bareS y))
theorem few_fst (ps : List (Str × Str)) (ys : List Str) : (fewP ps ys).map (·.1) = ys.map bareS := by
  unfold fewP
  rw [List.map_map]
  rfl
theorem Sent.fewOk {ns ys : List Str} {ps : List (Str × Str)} (S : Sent ns ps) (g : Good ns ys) (lo : ns.all lowZ = true) : ((fewP ps ys).map (·.1)).Nodup ∧ ((fewP ps ys).map (·.2)).Nodup ∧ (∀ p ∈ fewP ps ys, lowZ p.1 = true ∧ lowZ p.2 = true) ∧
    ∀ y ∈ ys, valV (dm (fewP ps ys)) (Sum.inr (bareS y)) = some (.str (rnOf ps (bareS y))) := by
  have n1 : ((fewP ps ys).map (·.1)).Nodup := by rw [few_fst]; exact g.one
  refine ⟨n1, ?_, fun p hp => ?_, fun y hy => valV_dm (p := (bareS y, rnOf ps (bareS y))) n1 (List.mem_map.mpr ⟨y, hy, rfl⟩)⟩
  · have e : (fewP ps ys).map (·.2) = ys.map fun y => rnOf ps (bareS y) := by
      unfold fewP
      rw [List.map_map]
      rfl
    rw [e]
    exact nodup_map_on (nodup_of_map bareS g.one) fun x hx y hy e => inj_of_nodup g.one hx hy (S.inj (g.names lo hx) (g.names lo hy) e)
  · obtain ⟨y, hy, rfl⟩ := List.mem_map.mp hp
    exact ⟨List.all_eq_true.mp lo _ (g.names lo hy), (S.val (g.names lo hy)).2.1⟩
theorem words_ok {ns ws : List Str} (nd : ns.Nodup) (lo : ns.all lowZ = true) (pm : ws.Perm (ns ++ (spareS ns).take 2)) : ws.Nodup ∧ ws.all lowZ = true ∧ ns.length ≤ ws.length := by
  have n2 : ((spareS ns).take 2).Nodup := (oct_nodup.sublist List.filter_sublist).sublist (List.take_sublist ..)
  refine ⟨pm.nodup_iff.mpr (List.nodup_append.mpr ⟨nd, n2, fun a ha b hb e => ?_⟩), List.all_eq_true.mpr fun w hw => ?_, by rw [pm.length_eq, List.length_append]; omega⟩
  · have h := (List.mem_filter.mp (List.mem_of_mem_take hb)).2
    rw [← e, decide_eq_true ha] at h
    cases h
  · rcases List.mem_append.mp (pm.mem_iff.mp hw) with h | h
    · exact List.all_eq_true.mp lo w h
    · obtain ⟨c, hc, rfl⟩ := List.mem_map.mp (List.mem_filter.mp (List.mem_of_mem_take h)).1
      exact oct_low c hc
theorem sent_of {ns ws : List Str} {ps : List (Str × Str)} (nd : ns.Nodup) (lo : ns.all lowZ = true) (few : ns.length ≤ 6) (nw : ws.Nodup) (lw : ws.all lowZ = true) (le : ns.length ≤ ws.length) (pm : ps.Perm (ns.zip ws)) : Sent ns ps := by
  have e1 : (ns.zip ws).map (·.1) = ns := List.map_fst_zip le
  have e2 : ((ns.zip ws).map (·.2)).Sublist ws := by
    have go : ∀ (ns ws : List Str), ((ns.zip ws).map (·.2)).Sublist ws := by
      intro ns
      induction ns with
      | nil => intro ws; exact List.nil_sublist _
      | cons n ns ih =>
        intro ws
        cases ws with
        | nil => exact List.nil_sublist _
        | cons w ws => exact (ih ws).cons₂ w
    exact go ns ws
  have p1 := pm.map (·.1)
  have p2 := pm.map (·.2)
  rw [e1] at p1
  refine ⟨p1.nodup_iff.mpr nd, p2.nodup_iff.mpr (nw.sublist e2), fun p hp => ?_, fun s hs => ?_, ?_⟩
  · have h1 : p.1 ∈ ns := p1.mem_iff.mp (List.mem_map.mpr ⟨p, hp, rfl⟩)
    have h2 : p.2 ∈ ws := e2.subset (p2.mem_iff.mp (List.mem_map.mpr ⟨p, hp, rfl⟩))
    exact ⟨List.all_eq_true.mp lo _ h1, List.all_eq_true.mp lw _ h2⟩
  · obtain ⟨p, hp, e⟩ := List.mem_map.mp (p1.mem_iff.mpr hs)
    exact ⟨p, hp, e⟩
  · have := p1.length_eq
    rw [List.length_map] at this
    omega
end My
end

section
set_option Elab.async false
set_option linter.all false
set_option maxRecDepth 100000
set_option maxHeartbeats 4000000
/-! sets of tuples of texts and ints, the empty tuple among them -/
namespace MyU
open PySem PySem.Spec PyProof.Rows PySem.Froz L2
abbrev uH (P : Program) (w : World) (k : List L2.Key) : Int := tupleKeyHash (mixKind P w) k
abbrev IsM (P : Program) (w : World) (h : Heap) (k : List L2.Key) (b : Addr) : Prop := IsTupleKey (mixKind P w) h k b
/-- a tuple by its place and its items -/
abbrev Rw : Type := Addr × List L2.Key
/-- the first state of a key's way, c steps on -/
abbrev stp (m : Nat) (g : Int) (c : Nat) : SetTable.Probe := nth m (runAt m (SetTable.bits g % (m + 1)) (SetTable.bits g)) c
theorem stp_j (m : Nat) (g : Int) (c q : Nat) : (nth m (stp m g c) q).j = way m g (c + q) := congrArg SetTable.Probe.j (nth_add m c _ q).symm
theorem nth_dummy (m : Nat) : ∀ (n : Nat) (p : SetTable.Probe), p.dummy = none → (nth m p n).dummy = none
  | 0, _, h => h
  | n + 1, p, h => nth_dummy m n (adv m p) (by unfold adv; split <;> exact h)
section
variable {P : Program} {w : World} {A : Around} {E : Value → Shared → Prop} {s : Shared}
theorem plain_item {k : List L2.Key} {vs : List Value} (h : ItemsAre (mixKind P w) k vs) : ∀ v ∈ vs, (∃ i t, v = Value.int i t) ∨ ∃ x t, v = Value.str x t := by
  induction h with
  | nil => exact fun v hv => nomatch hv
  | cons h1 _ ih =>
    intro v hv
    rcases List.mem_cons.mp hv with rfl | hv
    · rcases keyIs_shape h1 with ⟨i, t, _, e⟩ | ⟨x, t, _, e⟩
      · exact .inl ⟨i, t, e⟩
      · exact .inr ⟨x, t, e⟩
    · exact ih v hv
theorem item_class (n : Nat) {v : Value} (h : (∃ i t, v = Value.int i t) ∨ ∃ x t, v = Value.str x t) : ofAClassStatement n v = pure false := by
  rcases h with ⟨i, t, rfl⟩ | ⟨x, t, rfl⟩ <;> cases n <;> rfl
theorem item_hash (n : Nat) {v : Value} (h : (∃ i t, v = Value.int i t) ∨ ∃ x t, v = Value.str x t) : ∃ b, hashByValue n v = pure b := by
  rcases h with ⟨i, t, rfl⟩ | ⟨x, t, rfl⟩
  · exact ⟨true, by cases n <;> rfl⟩
  · exact ⟨false, by cases n <;> rfl⟩
theorem noClass {k : List L2.Key} {b : Addr} {Q : Bool → Shared → Prop} (hk : IsM P w s.heap k b) (h : Q false s) : wpAny (model P w) A (ofAClassStatement 8 (.ref b)) Q E s := by
  have ty := hk.typeIs
  obtain ⟨o, its, n, ho, _, hd, hi⟩ := hk
  unfold ofAClassStatement
  refine wpAny_bind (wpAny_typeOf ty ?_)
  dsimp only
  simp only [show (("tuple" : String) == "tuple") = true by decide, if_true, Bool.not_true, Bool.false_eq_true, if_false]
  try refine wpAny_bind (wpAny_pure ?_)
  try simp only [Bool.not_true, Bool.false_eq_true, if_false]
  refine wpAny_bind (m := seqItems? (.ref b)) (wpAny_seqItems ho hd ?_)
  refine wpAny_bind (m := forIn its _ _) ?_
  rw [← Array.forIn_toList]
  refine wpAny_forIn_list _ (fun left r s1 => (s1 = s ∧ r.1 = none) ∧ ∀ v ∈ left, (∃ i t, v = Value.int i t) ∨ ∃ x t, v = Value.str x t) _ ?_ ?_ _ _ ⟨⟨rfl, rfl⟩, plain_item hi⟩
  · rintro v left r s1 ⟨⟨rfl, e⟩, all⟩
    rw [item_class _ (all v List.mem_cons_self)]
    refine wpAny_bind (wpAny_pure (wp_if_neg (by decide) (wpAny_pure ⟨⟨rfl, rfl⟩, fun u hu => all u (List.mem_cons_of_mem _ hu)⟩)))
  · rintro ⟨r, q⟩ s1 ⟨⟨rfl, e⟩, _⟩
    obtain rfl : r = none := e
    exact wpAny_pure h
theorem someHash {k : List L2.Key} {b : Addr} {Q : Bool → Shared → Prop} (hk : IsM P w s.heap k b) (h : ∀ x, Q x s) : wpAny (model P w) A (hashByValue 8 (.ref b)) Q E s := by
  have ty := hk.typeIs
  obtain ⟨o, its, n, ho, _, hd, hi⟩ := hk
  unfold hashByValue
  refine wpAny_bind (wpAny_specialOf ty F.slot_tuple_hash.lookup ?_)
  refine wpAny_bind (m := seqItems? (.ref b)) (wpAny_seqItems ho hd ?_)
  refine wpAny_bind (m := forIn its _ _) ?_
  rw [← Array.forIn_toList]
  refine wpAny_forIn_list _ (fun left r s1 => s1 = s ∧ ∀ v ∈ left, (∃ i t, v = Value.int i t) ∨ ∃ x t, v = Value.str x t) _ ?_ ?_ _ _ ⟨rfl, plain_item hi⟩
  · rintro v left r s1 ⟨rfl, all⟩
    obtain ⟨x, e⟩ := item_hash 7 (all v List.mem_cons_self)
    rw [e]
    refine wpAny_bind (wpAny_pure ?_)
    cases x with
    | true => exact wp_if_neg (by decide) (wpAny_pure ⟨rfl, fun u hu => all u (List.mem_cons_of_mem _ hu)⟩)
    | false => exact wp_if_pos (by decide) (wpAny_pure (wpAny_pure (h _)))
  · rintro ⟨r, q⟩ s1 ⟨rfl, _⟩
    cases r with
    | none => exact wpAny_pure (h _)
    | some x => exact wpAny_pure (h _)
theorem unseen {k : List L2.Key} {b : Addr} {ys : List Value} {Q : Bool → Shared → Prop} (hk : IsM P w s.heap k b) (hy : ∀ y ∈ ys, ∃ (k' : List L2.Key) (c : Addr), y = Value.ref c ∧ IsM P w s.heap k' c) (h : Q false s) :
    wpAny (model P w) A (searchCouldBeSeen (.ref b) ys) Q E s := by
  unfold searchCouldBeSeen
  refine wpAny_bind (wpAny_forIn_list _ (fun left r s1 => (s1 = s ∧ r.1 = none) ∧ ∀ y ∈ left, ∃ (k' : List L2.Key) (c : Addr), y = Value.ref c ∧ IsM P w s.heap k' c) _ ?_ ?_ _ _ ⟨⟨rfl, rfl⟩, hy⟩)
  · rintro v left r s1 ⟨⟨rfl, e⟩, all⟩
    obtain ⟨k', c, rfl, hc⟩ := all v List.mem_cons_self
    have all' := fun u hu => all u (List.mem_cons_of_mem _ hu)
    dsimp only
    by_cases z : (b == c || (carriedByValue (.ref b) && carriedByValue (.ref c))) = true
    · exact wp_if_pos z (wpAny_pure ⟨⟨rfl, rfl⟩, all'⟩)
    · refine wp_if_neg z (wpAny_bind (wpAny_eqIsQuiet_tuple hk (wp_if_neg (by decide) (wpAny_bind (wpAny_eqIsQuiet_tuple hc (wp_if_neg (by decide) ?_))))))
      exact wpAny_bind (noClass hk (wp_if_neg (by decide) (wpAny_bind (noClass hc (wp_if_neg (by decide) (wpAny_pure ⟨⟨rfl, rfl⟩, all'⟩))))))
  · rintro ⟨r, q⟩ s1 ⟨⟨rfl, e⟩, _⟩
    obtain rfl : r = none := e
    exact wpAny_pure h

def rowE (P : Program) (w : World) (x : Rw) : Int × Value := (uH P w x.2, Value.ref x.1)
/-- the payload D holds the tuples L, no two alike, each where its way leads -/
structure Du (P : Program) (w : World) (h : Heap) (D : SD) (L : List Rw) : Prop where
  ent : D.1.toList = L.map (rowE P w)
  tab : TabOk D.2.2 (L.map fun x => uH P w x.2)
  nd : (L.map (·.2)).Nodup
  tup : ∀ x ∈ L, IsM P w h x.2 x.1
  led : w.params.followText "set-order" = true ∨ D.2.2.led = true
  room : L.length * 5 < D.2.2.mask * 3
  few : L.length < 64
theorem Du.size {h : Heap} {D : SD} {L : List Rw} (R : Du P w h D L) : D.1.size = L.length := by
  rw [← Array.length_toList, R.ent, List.length_map]
theorem fits_of {t : SetTable} {n m : Nat} (h1 : t.place.size = n) (h2 : t.dummies = #[]) (h3 : m = n) (h4 : n ≤ t.mask) : t.fits m = true := by
  subst h1 h3
  unfold SetTable.fits SetTable.fill
  rw [h2, Bool.and_eq_true, beq_iff_eq, decide_eq_true_eq]
  exact ⟨rfl, h4⟩
theorem Du.fit {h : Heap} {D : SD} {L : List Rw} (R : Du P w h D L) : D.2.2.fits D.1.size = true :=
  fits_of (by rw [R.tab.sz, List.length_map]) R.tab.dm R.size (by have := R.room; omega)
theorem Du.at {h : Heap} {D : SD} {L : List Rw} (R : Du P w h D L) {i : Nat} {x : Rw} (e : L[i]? = some x) : D.1[i]? = some (rowE P w x) := by
  rw [← Array.getElem?_toList, R.ent, List.getElem?_map, e, Option.map_some]
theorem Du.live {h : Heap} {D : SD} {L : List Rw} (R : Du P w h D L) {i j : Nat} (e : D.2.2.place.toList[i]? = some j) : ∃ x, L[i]? = some x ∧ D.2.2.slot j = .live i := by
  have z := R.tab.sz
  rw [List.length_map, ← Array.length_toList] at z
  have lt : i < L.length := z ▸ (List.getElem?_eq_some_iff.mp e).1
  exact ⟨L[i], List.getElem?_eq_getElem lt, slot_live R.tab.ris e⟩
/-- the search for a tuple: it is met, or its way's first free slot -/
theorem seek {a : Addr} {D : SD} {L : List Rw} (ho : s.heap.get? a = some (sObj "set" D)) (R : Du P w s.heap D L) {x : Addr} {k : List L2.Key} (hx : IsM P w s.heap k x) (hu : A.units < cLine) {K : Nat} (free : way D.2.2.mask (uH P w k) K ∉ D.2.2.place.toList)
    (full : ∀ c, c < K → way D.2.2.mask (uH P w k) c ∈ D.2.2.place.toList) (short : K < 10 * SetTable.turns D.2.2.mask) {Q : SetFound → Shared → Prop} (met : k ∈ L.map (·.2) → Q (.there none) s) (gone : k ∉ L.map (·.2) → Q (.free (way D.2.2.mask (uH P w k) K) false) s) :
    ∀ (f c : Nat) (from' : Option SetTable.Probe), from'.getD (D.2.2.probeStart (uH P w k)) = stp D.2.2.mask (uH P w k) c → c ≤ K → K < c + f →
      (∀ (i : Nat) (y : Rw), L[i]? = some y → y.2 = k → ∃ d, c ≤ d ∧ d < K ∧ D.2.2.place.toList[i]? = some (way D.2.2.mask (uH P w k) d)) → wpAny (model P w) A (setSearchFrom a (.ref x) (uH P w k) true f from') Q E s := by
  obtain ⟨es, ep, t⟩ := D
  intro f
  induction f with
  | zero => exact fun c _ _ h1 h2 => absurd h2 (by omega)
  | succ f ih =>
    intro c from' hf hc hK ahead
    have same : ∀ (i : Nat) (y : Rw), L[i]? = some y → (es[i]?.map (·.1)).getD 0 = uH P w y.2 := fun i y e => by rw [R.at e] <;> rfl
    rw [setSearchFrom_succ]
    refine wpAny_bind (wpAny_setState_of ho rfl R.fit (wp_if_neg ?_ ?_))
    · unfold SetTable.gaveWay
      rw [mask_odd R.tab.mok]
      decide
    try refine wpAny_bind (wpAny_pure ?_)
    have way' : ∀ q, (nth t.mask (stp t.mask (uH P w k) c) q).j = way t.mask (uH P w k) (c + q) := stp_j t.mask (uH P w k) c
    rcases go_spec t R.tab.ris R.tab.dm (fun i => (es[i]?.map (·.1)).getD 0) (uH P w k) (10 * SetTable.turns t.mask) (K - c) (stp t.mask (uH P w k) c) (nth_dummy _ _ _ rfl) (Nat.lt_of_le_of_lt (Nat.sub_le _ _) short)
      (fun q hq => by rw [way']; exact full _ (by omega)) (by rw [way', Nat.add_sub_cancel' hc]; exact free) with ⟨q, i, lt, pl, eqh, none', ans⟩ | ⟨none', ans⟩
    · have ans' : t.probe (fun i => (es[i]?.map (·.1)).getD 0) (uH P w k) (from'.getD (t.probeStart (uH P w k))) = some (.candidate (way t.mask (uH P w k) (c + q)) i (stp t.mask (uH P w k) (c + (q + 1)))) := by
        rw [hf, ← way', show stp t.mask (uH P w k) (c + (q + 1)) = nth t.mask (stp t.mask (uH P w k) c) (q + 1) from nth_add _ _ _ _]
        exact ans
      rw [ans']
      dsimp only
      rw [way'] at pl
      obtain ⟨y, ey, live⟩ := R.live pl
      have ym := List.mem_of_getElem? ey
      have go : wpAny (model P w) A (searchRest a (.ref x) (uH P w k) true f es t (way t.mask (uH P w k) (c + q)) i (stp t.mask (uH P w k) (c + (q + 1)))) Q E s := by
        unfold searchRest
        rw [R.at ey]
        refine wpAny_bind (wpAny_holding (wpAny_eqBool_tuple hu (R.tup y ym) hx (wpAny_bind (wpAny_setState_of ho rfl R.fit ?_))))
        by_cases hk : y.2 = k
        · exact wp_if_pos (by simp [hk]) (wpAny_pure (met (List.mem_map.mpr ⟨y, ym, hk⟩)))
        · refine wp_if_neg (by simp [hk]) ?_
          try refine wpAny_bind (wpAny_pure ?_)
          rw [sameMem]
          simp only [if_true, live, R.at ey]
          refine wpAny_bind (wpAny_isSame_ref_self (wpAny_bind (wpAny_pure ?_)))
          refine wp_if_neg (by simp [hk]) (ih (c + (q + 1)) _ rfl (by omega) (by omega) fun i2 y2 e2 k2 => ?_)
          obtain ⟨d, d1, d2, d3⟩ := ahead i2 y2 e2 k2
          refine ⟨d, ?_, d2, d3⟩
          have ne1 : ¬ d < c + q := fun z => none' (d - c) i2 (by omega) (by rw [way', Nat.add_sub_cancel' d1]; exact d3) ((same i2 y2 e2).trans (congrArg _ k2))
          have ne2 : d ≠ c + q := fun z => by
            subst z
            obtain ⟨y3, e3, l3⟩ := R.live d3
            rw [live] at l3
            injection l3 with l3
            rw [← l3, ey] at e2
            injection e2 with e2
            exact hk (e2 ▸ k2)
          omega
      by_cases hl : t.led = true
      · refine wp_if_neg (by simp [hl]) ?_
        try refine wpAny_bind (wpAny_pure ?_)
        exact go
      · refine wp_if_pos (by simp [hl]) (wpAny_bind (unseen hx (fun v hv => ?_) (wp_if_neg (by decide) ?_)))
        · obtain ⟨en, he, rfl⟩ := List.mem_map.mp hv
          have he2 : en ∈ es.toList := by
            have : en ∈ es ∧ en.1 = uH P w k := by simpa using he
            simpa using this.1
          rw [show es.toList = L.map (rowE P w) from R.ent] at he2
          obtain ⟨y3, hy3, rfl⟩ := List.mem_map.mp he2
          exact ⟨y3.2, y3.1, rfl, R.tup y3 hy3⟩
        · try refine wpAny_bind (wpAny_pure ?_)
          exact go
    · have ans' : t.probe (fun i => (es[i]?.map (·.1)).getD 0) (uH P w k) (from'.getD (t.probeStart (uH P w k))) = some (.empty (way t.mask (uH P w k) K) none) := by
        have z := way' (K - c)
        rw [Nat.add_sub_cancel' hc] at z
        rw [hf, ← z]
        exact ans
      rw [ans']
      refine wpAny_pure (gone fun hm => ?_)
      obtain ⟨y, ym, ky⟩ := List.mem_map.mp hm
      obtain ⟨i, hi, ei⟩ := List.getElem_of_mem ym
      have ey : L[i]? = some y := by rw [List.getElem?_eq_getElem hi, ei]
      obtain ⟨d, d1, d2, d3⟩ := ahead i y ey ky
      exact none' (d - c) i (by omega) (by rw [way', Nat.add_sub_cancel' d1]; exact d3) ((same i y ey).trans (congrArg _ ky))

theorem seek_all {a : Addr} {D : SD} {L : List Rw} (ho : s.heap.get? a = some (sObj "set" D)) (R : Du P w s.heap D L) {x : Addr} {k : List L2.Key} (hx : IsM P w s.heap k x) (hu : A.units < cLine) {Q : SetFound → Shared → Prop}
    (met : k ∈ L.map (·.2) → Q (.there none) s)
    (gone : ∀ K, k ∉ L.map (·.2) → way D.2.2.mask (uH P w k) K ∉ D.2.2.place.toList → (∀ c, c < K → way D.2.2.mask (uH P w k) c ∈ D.2.2.place.toList) → Q (.free (way D.2.2.mask (uH P w k) K) false) s) :
    wpAny (model P w) A (setSearch a (.ref x) (uH P w k) true) Q E s := by
  have rm := R.room
  obtain ⟨K, short, free, full⟩ := R.tab.first (by rw [List.length_map]; omega) (uH P w k)
  have few : 10 * SetTable.turns D.2.2.mask < 100000 := by
    unfold SetTable.turns
    rcases R.tab.mok with e | e | e <;> omega
  unfold setSearch
  refine seek ho R hx hu free full short met (fun z => gone K z free full) 100000 0 none rfl (Nat.zero_le _) (by omega) fun i y ey ky => ?_
  have lt : i < D.2.2.place.toList.length := by
    have z := R.tab.sz
    rw [List.length_map, ← Array.length_toList] at z
    exact z ▸ (List.getElem?_eq_some_iff.mp ey).1
  obtain ⟨d, d1, d2⟩ := R.tab.before free (i := i) (h := uH P w k) (by rw [List.getElem?_map, ey, Option.map_some, ky]) (List.getElem?_eq_getElem lt)
  exact ⟨d, Nat.zero_le _, d1, by rw [List.getElem?_eq_getElem lt, d2]⟩
theorem isM_but {h h' : Heap} {k : List L2.Key} {a b : Addr} {D : SD} (hb : IsM P w h k b) (ho : h.get? a = some (sObj "set" D)) (hs : Heap.SameBut a h h') : IsM P w h' k b := by
  obtain ⟨o, its, n, e, c, d, r⟩ := hb
  refine ⟨o, its, n, (hs.2 b fun z => ?_).trans e, c, d, r⟩
  subst z
  rw [ho] at e
  cases e
  exact nomatch d
theorem isM_keep {h h' : Heap} {k : List L2.Key} {b : Addr} (x : IsM P w h k b) (hk : ∀ c o, h.get? c = some o → h'.get? c = some o) : IsM P w h' k b := by
  obtain ⟨o, its, n, e, r⟩ := x
  exact ⟨o, its, n, hk _ _ e, r⟩
theorem perm_mid {α : Type} (L : List α) (p : Nat) (x : α) : (L.take p ++ x :: L.drop p).Perm (x :: L) := by
  have z : (L.take p ++ x :: L.drop p).Perm (x :: (L.take p ++ L.drop p)) := List.perm_middle
  rwa [List.take_append_drop] at z
/-- the same rows in another order, as the table is laid anew -/
theorem reorder {es : Array (Int × Value)} {L : List Rw} (hr : es.toList = L.map (rowE P w)) {order : Array Nat} (hp : order.toList.Perm (List.range L.length)) :
    ∃ L' : List Rw, (order.filterMap (es[·]?)).toList = L'.map (rowE P w) ∧ L'.Perm L ∧ (L'.map fun x => uH P w x.2) = order.toList.map fun i => (es.map (·.1)).getD i 0 := by
  have at' : ∀ i, es[i]? = (L[i]?).map (rowE P w) := fun i => by rw [← Array.getElem?_toList, hr, List.getElem?_map]
  have fm : ∀ l : List Nat, (∀ i ∈ l, i < L.length) → l.filterMap (fun i => es[i]?) = (l.filterMap fun i => L[i]?).map (rowE P w) ∧ ((l.filterMap fun i => L[i]?).map fun x => uH P w x.2) = l.map fun i => (es.map (·.1)).getD i 0 := by
    intro l
    induction l with
    | nil => exact fun _ => ⟨rfl, rfl⟩
    | cons i l ih =>
      intro hl
      have lt := hl i List.mem_cons_self
      have e1 : L[i]? = some L[i] := List.getElem?_eq_getElem lt
      have e2 : es[i]? = some (rowE P w L[i]) := by rw [at', e1] <;> rfl
      obtain ⟨i1, i2⟩ := ih fun j hj => hl j (List.mem_cons_of_mem _ hj)
      have e3 : (es.map (·.1)).getD i 0 = uH P w (L[i]).2 := by
        have : (es.map (·.1))[i]? = some (uH P w (L[i]).2) := by rw [Array.getElem?_map, e2] <;> rfl
        simp [Array.getD_eq_getD_getElem?, this]
      rw [List.filterMap_cons_some e2, List.filterMap_cons_some e1, List.map_cons, List.map_cons, List.map_cons, i1, i2, e3]
      exact ⟨rfl, rfl⟩
  obtain ⟨f1, f2⟩ := fm order.toList fun i hi => List.mem_range.mp (hp.mem_iff.mp hi)
  refine ⟨order.toList.filterMap fun i => L[i]?, by first | (rw [Array.toList_filterMap]; exact f1) | simpa using f1, (hp.filterMap _).trans (.of_eq ?_), f2⟩
  have all : ∀ n, n ≤ L.length → (List.range n).filterMap (fun i => L[i]?) = L.take n := by
    intro n
    induction n with
    | zero => exact fun _ => rfl
    | succ n ih =>
      intro hn
      have e1 : L[n]? = some L[n] := List.getElem?_eq_getElem hn
      rw [List.range_succ, List.filterMap_append, ih (Nat.le_of_lt hn), List.take_succ, e1, List.filterMap_cons_some e1] <;> rfl
  rw [all _ (Nat.le_refl _), List.take_length]
/-- the rows' own facts, whatever the table: what stays as the table is laid anew -/
theorem lay_anew {a : Addr} {D : SD} {L : List Rw} (ho : s.heap.get? a = some (sObj "set" D)) (ent : D.1.toList = L.map (rowE P w)) (pl : D.2.2.place.size = L.length) (dm : D.2.2.dummies = #[]) (sm : L.length ≤ D.2.2.mask) (nd : (L.map (·.2)).Nodup)
    (tup : ∀ x ∈ L, IsM P w s.heap x.2 x.1) (led : w.params.followText "set-order" = true ∨ D.2.2.led = true) (few : L.length < 64) {n M : Nat} (hM : SetTable.sizeAbove n - 1 = M) (ok : MaskOk M) (big : SetTable.sizeAbove n ≤ 128) (room : L.length * 5 < M * 3)
    {Q : Unit → Shared → Prop} (q : ∀ h' D' L', Heap.SameBut a s.heap h' → h'.get? a = some (sObj "set" D') → Du P w h' D' L' → L'.Perm L → Q () { s with heap := h' }) : wpAny (model P w) A (setRelay a n) Q E s := by
  obtain ⟨es, ep, t⟩ := D
  have ent' : es.toList = L.map (rowE P w) := ent
  have sz : es.size = L.length := by rw [← Array.length_toList, ent', List.length_map]
  obtain ⟨t2, order, e1, pm, tab, mk, ld, _, _⟩ := relaid_ok t (hs := es.map (·.1)) (wanted := n) hM ok (by rw [Array.size_map]; omega)
  rw [Array.size_map, sz] at pm
  obtain ⟨L', r1, r2, r3⟩ := reorder (P := P) (w := w) ent' pm
  have sz2 : (order.filterMap (es[·]?)).size = es.size := by
    rw [← Array.length_toList, r1, List.length_map, r2.length_eq, sz]
  rw [setRelay_eq]
  refine wpAny_bind (wpAny_setState_of ho rfl (fits_of pl dm sz sm) (wp_if_neg (by rw [sizeLine_eq]; omega) ?_))
  try refine wpAny_bind (wpAny_pure ?_)
  rw [e1]
  refine wpAny_bind (wp_if_neg (by rw [sz2]; simp) ?_)
  try refine wpAny_bind (wpAny_pure ?_)
  refine wpAny_pure (wpAny_storeSet_of ho rfl ?_ (by rw [sz2, sz, sizeLine_eq]; omega))
  have sb : Heap.SameBut a s.heap (s.heap.update a (Obj.putSet (order.filterMap (es[·]?)) t2)) := Heap.SameBut.update ..
  exact q _ (order.filterMap (es[·]?), ep + 1, t2) L' sb (store_at ho rfl) ⟨r1, r3 ▸ tab, (r2.map (·.2)).nodup_iff.mpr nd, fun x hx => isM_but (tup x (r2.mem_iff.mp hx)) ho sb, by rw [show t2.led = t.led from ld]; exact led, by rw [r2.length_eq, show t2.mask = M from mk]; exact room, by rw [r2.length_eq]; exact few⟩ r2

/-- a tuple comes to a set, new or not -/
theorem put {a : Addr} {D : SD} {L : List Rw} (ho : s.heap.get? a = some (sObj "set" D)) (R : Du P w s.heap D L) {x : Addr} {k : List L2.Key} (hx : IsM P w s.heap k x) (hu : A.units < cLine) (few : L.length + 1 < 64) {Q : Bool → Shared → Prop}
    (q : ∀ (b : Bool) (h' : Heap) (D' : SD) (L' : List Rw), Heap.SameBut a s.heap h' → h'.get? a = some (sObj "set" D') → Du P w h' D' L' → (k ∈ L.map (·.2) ∧ L' = L ∨ k ∉ L.map (·.2) ∧ L'.Perm ((x, k) :: L)) → Q b { s with heap := h' }) :
    wpAny (model P w) A (setAddHashed a (.ref x) (uH P w k)) Q E s := by
  have size := R.size
  have room := R.room
  have ring := R.tab.mok
  unfold setAddHashed
  refine wpAny_holding ?_
  rw [show (100000 : Nat) = 99999 + 1 from rfl, setAddHashedIn_succ]
  refine wpAny_bind (wpAny_setState_of ho rfl R.fit (wp_if_neg (by simp [byScan, Value.scannable]) ?_))
  try refine wpAny_bind (wpAny_pure ?_)
  refine wpAny_bind (seek_all ho R hx hu (fun hm => wpAny_pure (q false s.heap D L (Heap.SameBut.refl a s.heap) ho R (.inl ⟨hm, rfl⟩))) fun K hm free full => ?_)
  refine wpAny_bind (wpAny_setState_of ho rfl R.fit ?_)
  obtain ⟨es, ep, t⟩ := D
  dsimp only at size room ring free full ⊢
  obtain ⟨p1, p2, p3, p4, p5, -, -, -, p9⟩ := R.tab.put free full
  generalize hpt : t.put (way t.mask (uH P w k) K) = tp at p1 p3 p4 p5 p9 ⊢
  obtain ⟨t1, p⟩ := tp
  dsimp only at p1 p3 p4 p5 p9 ⊢
  subst p1
  -- whether the new tuple's hash is by value or not, the table's places are the same
  have main : ∀ t2 : SetTable, t2.place = t1.place → t2.dummies = t1.dummies → t2.mask = t1.mask → t2.led = t1.led →
      wpAny (model P w) A (do
        storeSet a (SetTable.insertAt es (SetTable.below t.place (way t.mask (uH P w k) K)) (uH P w k, Value.ref x)) t2
        if !false && t2.tooFull then setRelay a (SetTable.grown (es.size + 1))
        return true) Q E s := by
    intro t2 f1 f2 f3 f4
    have ent : (SetTable.insertAt es (SetTable.below t.place (way t.mask (uH P w k) K)) (uH P w k, Value.ref x)).toList = (L.take (SetTable.below t.place (way t.mask (uH P w k) K)) ++ (x, k) :: L.drop (SetTable.below t.place (way t.mask (uH P w k) K))).map (rowE P w) := by
      rw [SetTable.toList_insertAt, show es.toList = L.map (rowE P w) from R.ent, List.map_append, List.map_cons, List.map_take, List.map_drop] <;> rfl
    have tab := p3
    rw [← List.map_take, ← List.map_drop, ← List.map_cons (f := fun x : Rw => uH P w x.2) (a := (x, k)), ← List.map_append] at tab
    have pm := perm_mid L (SetTable.below t.place (way t.mask (uH P w k) K)) (x, k)
    generalize L.take (SetTable.below t.place (way t.mask (uH P w k) K)) ++ (x, k) :: L.drop (SetTable.below t.place (way t.mask (uH P w k) K)) = L1 at ent tab pm
    generalize SetTable.insertAt es (SetTable.below t.place (way t.mask (uH P w k) K)) (uH P w k, Value.ref x) = es1 at ent ⊢
    have len : L1.length = L.length + 1 := pm.length_eq
    have sz1 : es1.size = L.length + 1 := by rw [← Array.length_toList, ent, List.length_map, len]
    have nd : (L1.map (·.2)).Nodup := by
      rw [(pm.map (·.2)).nodup_iff, List.map_cons]
      exact List.nodup_cons.mpr ⟨hm, R.nd⟩
    have sb : Heap.SameBut a s.heap (s.heap.update a (Obj.putSet es1 t2)) := Heap.SameBut.update ..
    have ho2 : (s.heap.update a (Obj.putSet es1 t2)).get? a = some (sObj "set" (es1, ep + 1, t2)) := store_at ho rfl
    refine wpAny_bind (wpAny_storeSet_of ho rfl ?_ (by rw [sz1, sizeLine_eq]; omega))
    have tup : ∀ y ∈ L1, IsM P w (s.heap.update a (Obj.putSet es1 t2)) y.2 y.1 := fun y hy => by
      rcases List.mem_cons.mp (pm.mem_iff.mp hy) with rfl | hy
      · exact isM_but hx ho sb
      · exact isM_but (R.tup y hy) ho sb
    have led : w.params.followText "set-order" = true ∨ t2.led = true := by
      rw [f4, p5]
      exact R.led
    have tab2 : TabOk t2 (L1.map fun x => uH P w x.2) := ⟨f1 ▸ tab.ris, f2.trans tab.dm, f1 ▸ tab.sz, f3 ▸ tab.mok, by rw [f1, f3]; exact tab.bd, by rw [f1, f3]; exact tab.reach⟩
    have pl : t2.place.size = L1.length := by rw [tab2.sz, List.length_map]
    have fill : t2.tooFull = decide ((L.length + 1) * 5 ≥ t2.mask * 3) := by
      unfold SetTable.tooFull SetTable.fill
      rw [tab2.dm, pl, len]
      rfl
    have mk : t2.mask = t.mask := f3.trans p4
    generalize s.heap.update a (Obj.putSet es1 t2) = h1 at sb ho2 tup
    by_cases z : (L.length + 1) * 5 ≥ t2.mask * 3
    · have two : (t.mask = 7 ∧ L.length = 4) ∨ (t.mask = 31 ∧ L.length = 18) := by
        rw [mk] at z
        rcases ring with e | e | e
        · exact .inl ⟨e, by omega⟩
        · exact .inr ⟨e, by omega⟩
        · omega
      have again' : ∀ M, SetTable.sizeAbove (SetTable.grown (es.size + 1)) - 1 = M → MaskOk M → SetTable.sizeAbove (SetTable.grown (es.size + 1)) ≤ 128 → (L.length + 1) * 5 < M * 3 → ∀ r : Unit → Sem Bool, r = (fun _ => pure true) →
          wpAny (model P w) A (setRelay a (SetTable.grown (es.size + 1)) >>= r) Q E { s with heap := h1 } := by
        rintro M m1 m2 m3 m4 r rfl
        refine wpAny_bind (lay_anew (s := { s with heap := h1 }) ho2 ent pl tab2.dm (by show L1.length ≤ t2.mask; rcases two with ⟨e1, e2⟩ | ⟨e1, e2⟩ <;> rw [len, mk] <;> omega) nd tup led (by rw [len]; exact few) m1 m2 m3 (by rw [len]; exact m4) fun h3 D3 L3 s3 o3 R3 m3 => ?_)
        exact wpAny_pure (q true h3 D3 L3 (sb.trans s3) o3 R3 (.inr ⟨hm, m3.trans pm⟩))
      first
        | refine wp_if_pos (by rw [fill]; simp [z]) ?_
        | refine wpAny_bind (wp_if_pos (by rw [fill]; simp [z]) ?_)
      rcases two with ⟨_, e2⟩ | ⟨_, e2⟩
      · exact again' 31 (by rw [size, e2, size_20]) (.inr (.inl rfl)) (by rw [size, e2, size_20]; decide) (by omega) _ rfl
      · exact again' 127 (by rw [size, e2, size_76]) (.inr (.inr rfl)) (by rw [size, e2, size_76]; decide) (by omega) _ rfl
    · first
        | refine wp_if_neg (by rw [fill]; simp [z]) ?_
        | refine wpAny_bind (wp_if_neg (by rw [fill]; simp [z]) (wpAny_pure ?_))
      exact wpAny_pure (q true h1 (es1, ep + 1, t2) L1 sb ho2 ⟨ent, tab2, nd, tup, led, by show L1.length * 5 < t2.mask * 3; rw [len]; omega, by rw [len]; exact few⟩ (.inr ⟨hm, pm⟩))
  by_cases pl : t1.plain = true
  · first
      | refine wp_if_pos pl (wpAny_bind (someHash hx fun b => ?_))
      | refine wpAny_bind (wp_if_pos pl (someHash hx fun b => ?_))
    cases b
    · exact main { t1 with plain := false } rfl rfl rfl rfl
    · exact main t1 rfl rfl rfl rfl
  · first
      | refine wp_if_neg pl (wpAny_bind (wpAny_pure ?_))
      | refine wpAny_bind (wp_if_neg pl (wpAny_pure ?_))
    exact main t1 rfl rfl rfl rfl

/-- what the set has of the first i tuples -/
structure Has (ys : List Rw) (i : Nat) (L : List Rw) : Prop where
  of : ∀ y ∈ L, y ∈ ys.take i
  all : ∀ y ∈ ys.take i, y.2 ∈ L.map (·.2)
  len : L.length ≤ i
theorem Has.step {ys L L' : List Rw} {i : Nat} {y : Rw} (g : Has ys i L) (e : ys[i]? = some y) (h : y.2 ∈ L.map (·.2) ∧ L' = L ∨ y.2 ∉ L.map (·.2) ∧ L'.Perm (y :: L)) : Has ys (i + 1) L' := by
  have tk : ys.take (i + 1) = ys.take i ++ [y] := by rw [List.take_succ, e] <;> rfl
  rcases h with ⟨hm, rfl⟩ | ⟨_, pm⟩
  · refine ⟨fun z hz => tk ▸ List.mem_append_left _ (g.of z hz), fun z hz => ?_, Nat.le_succ_of_le g.len⟩
    rw [tk] at hz
    rcases List.mem_append.mp hz with hz | hz
    · exact g.all z hz
    · exact List.mem_singleton.mp hz ▸ hm
  · refine ⟨fun z hz => ?_, fun z hz => ?_, by rw [pm.length_eq]; exact Nat.succ_le_succ g.len⟩
    · rw [tk]
      rcases List.mem_cons.mp (pm.mem_iff.mp hz) with rfl | hz
      · exact List.mem_append_right _ (List.mem_singleton.mpr rfl)
      · exact List.mem_append_left _ (g.of z hz)
    · rw [(pm.map (·.2)).mem_iff, List.map_cons]
      rw [tk] at hz
      rcases List.mem_append.mp hz with hz | hz
      · exact List.mem_cons_of_mem _ (g.all z hz)
      · exact List.mem_singleton.mp hz ▸ List.mem_cons_self
theorem du_fresh {h : Heap} : Du P w h (#[], 0, .fresh 0 0 (!w.params.followText "set-order")) [] where
  ent := rfl
  tab := ⟨List.Pairwise.nil, rfl, rfl, .inl rfl, fun _ z => (by cases z), fun i g j z => (by simp at z)⟩
  nd := List.nodup_nil
  tup := fun _ z => (by cases z)
  led := by
    show _ ∨ (!w.params.followText "set-order") = true
    cases w.params.followText "set-order"
    · exact .inr rfl
    · exact .inl rfl
  room := (by decide : 0 * 5 < 7 * 3)
  few := (by decide : 0 < 64)
theorem Du.move {h h' : Heap} {D : SD} {L : List Rw} (R : Du P w h D L) (t : ∀ x ∈ L, IsM P w h' x.2 x.1) : Du P w h' D L := ⟨R.ent, R.tab, R.nd, t, R.led, R.room, R.few⟩
/-- what a walk gives, all tuples, comes to a set -/
theorem upd_loop {I : Addr} {fp wr : List Addr} {G : Array GenState → Array GenState → Prop} {n : Nat} {Pv : Nat → Value → Prop} {St : Nat → Shared → Prop} {R : Result → Shared → Prop}
    (W : WalksS P w A.in1 I fp wr G n Pv St) (S : Addr) (nf : S ∉ fp) (ys : List Rw) (hb : n < 64) (hv : ∀ i v, Pv i v → ∃ y, ys[i]? = some y ∧ v = Value.ref y.1) (hu : A.in1.units < cLine) (h0 : Heap) (hy : ∀ y ∈ ys, IsM P w h0 y.2 y.1) (noS : h0.get? S = none) (noW : ∀ b ∈ wr, h0.get? b = none) :
    ∀ (m i : Nat) (s : Shared) (D : SD) (L : List Rw), i + m = n → St i s → s.heap.get? S = some (sObj "set" D) → Du P w s.heap D L → Has ys i L → (∀ b o, h0.get? b = some o → s.heap.get? b = some o) →
      (∀ s' D' L', Moved (S :: wr) G s s' → s'.heap.get? S = some (sObj "set" D') → Du P w s'.heap D' L' → Has ys n L' → (∀ b o, h0.get? b = some o → s'.heap.get? b = some o) → R (.ok (.ret .none)) s') →
      codeAny (model P w) A (.builtin "set.update.loop" ⟨[.ref S, .ref I], []⟩) R s := by
  have nw : S ∉ wr := fun h => nf (W.sub _ h)
  have up : ∀ b ∈ wr, b ∈ S :: wr := fun b hb => List.mem_cons_of_mem _ hb
  have old : ∀ {s s' : Shared}, Moved wr G s s' → (∀ b o, h0.get? b = some o → s.heap.get? b = some o) → ∀ b o, h0.get? b = some o → s'.heap.get? b = some o := fun mv k b o e =>
    mv.heap b o (fun z => by rw [noW b z] at e; cases e) (k b o e)
  have tups : ∀ {h : Heap} {L : List Rw} {i : Nat}, Has ys i L → (∀ b o, h0.get? b = some o → h.get? b = some o) → ∀ x ∈ L, IsM P w h x.2 x.1 := fun g k x hx => isM_keep (hy x (List.mem_of_mem_take (g.of x hx))) k
  intro m
  induction m with
  | zero =>
    rintro i s D L rfl hst ho F g k fin
    refine codeAny_builtin PyProof.Rows.F.entry_set_update_loop ?_
    rw [Around.under_plainId PyProof.Rows.F.plain_set_update_loop _]
    exact wpAny_bind (m := pyNext (.ref I)) (W.done s _ _ hst fun s' mv => wpAny_pure (fin s' D L (mv.mono up) (mv.heap S _ nw ho) (F.move (tups g (old mv k))) g (old mv k)))
  | succ m ih =>
    intro i s D L hi hst ho F g k fin
    refine codeAny_builtin PyProof.Rows.F.entry_set_update_loop ?_
    rw [Around.under_plainId PyProof.Rows.F.plain_set_update_loop _]
    refine wpAny_bind (m := pyNext (.ref I)) (W.item i s _ _ (by omega) hst fun v s1 hp st1 mv => ?_)
    obtain ⟨y, ey, rfl⟩ := hv i v hp
    have k1 := old mv k
    have ty : IsM P w s1.heap y.2 y.1 := isM_keep (hy y (List.mem_of_getElem? ey)) k1
    refine wpAny_bind (m := holding [Value.ref y.1] (setAdd S (.ref y.1))) (wpAny_holding ?_)
    unfold setAdd
    refine wpAny_holding (wpAny_bind (wpAny_pyHash_tuple hu ty ?_))
    refine put (s := { s1 with toks := s1.toks + (y.2.length + 1) }) (D := D) (L := L) (mv.heap S _ nw ho) (F.move (tups g k1)) ty hu (by have := g.len; omega) fun b h2 D2 L2 sb ho2 F2 c => ?_
    have k2 : ∀ b o, h0.get? b = some o → h2.get? b = some o := fun b o e => (sb.2 b fun z => by rw [z, noS] at e; cases e).trans (k1 b o e)
    refine wpAny_pure ⟨plainId_quiet PyProof.Rows.F.plain_set_update_loop _, ih (i + 1) _ D2 L2 (by omega) (W.frame _ s1 _ _ st1 (Nat.le_add_right _ _) fun b hb o e => (sb.2 b fun z => nf (z ▸ hb)).trans e) ho2 F2 (g.step ey c) k2 fun s3 D3 L3 mv3 ho3 F3 g3 k3 => ?_⟩
    exact fin s3 D3 L3 (Moved.trans W.gtrans ((mv.mono up).then_heap (Nat.le_add_right _ _) fun b o hb e => (sb.2 b fun z => hb (z ▸ List.mem_cons_self)).trans e) mv3) ho3 F3 g3 k3
abbrev hSet (w : World) (h : Heap) : Heap := h.push (sObj "set" (#[], 0, .fresh 0 0 (!w.params.followText "set-order")))
theorem at_place {items : Array Value} {ys : List Rw} (e : items.toList = ys.map fun y => Value.ref y.1) (i : Nat) (v : Value) (h : items[i]? = some v) : ∃ y, ys[i]? = some y ∧ v = Value.ref y.1 := by
  rw [← Array.getElem?_toList, e, List.getElem?_map] at h
  obtain ⟨y, e1, e2⟩ := Option.map_eq_some_iff.mp h
  exact ⟨y, e1, e2.symm⟩
/-- the set's filling from a list -/
theorem fill {S l : Addr} {items : Array Value} {ys : List Rw} {h0 : Heap} {Q : Shared → Prop} (hh : A.handled = none) (hS : s.heap.get? S = some (sObj "set" (#[], 0, .fresh 0 0 (!w.params.followText "set-order")))) (hl : s.heap.IsList l items) (ne : S ≠ l)
    (hi : items.toList = ys.map fun y => Value.ref y.1) (hb : ys.length < 64) (hu : A.units + 2 < cLine) (hy : ∀ y ∈ ys, IsM P w h0 y.2 y.1) (noS : h0.get? S = none) (k : ∀ b o, h0.get? b = some o → s.heap.get? b = some o)
    (h : ∀ s' D L, (∀ b o, h0.get? b = some o → s'.heap.get? b = some o) → s'.gens = s.gens → s'.drawn = s.drawn → s'.os = s.os → s'.heap.get? S = some (sObj "set" D) → Du P w s'.heap D L → Has ys ys.length L → Q s') :
    wpAny (model P w) A (Builtin.Frozenset.updateFrom "set.__init__" S (.ref l)) (fun _ s' => Q s') E s := by
  have hz : items.size = ys.length := by rw [← Array.length_toList, hi, List.length_map]
  obtain ⟨⟨cls, dict, data, slots⟩, hol, hcl, nl, hdl⟩ := id hl
  simp only at hcl hdl
  subst hcl; subst hdl
  have f1 := F.sub_list_set
  have f2 := F.sub_list_frozenset
  have f3 : (Value.type "list" == Value.type "dict") = false := by decide
  have big : S < s.heap.objs.size := Heap.lt_size hS
  have lbig : l < s.heap.objs.size := Heap.lt_size hol
  unfold Builtin.Frozenset.updateFrom
  generalize hPI : pyIter = PI
  wp_walk
  subst hPI
  refine wpAny_pyIter_list hl ?_
  refine wpAny_bind (wpAny_runValue ?_)
  have hI : l ≠ s.heap.objs.size := Nat.ne_of_lt lbig
  have noI : h0.get? s.heap.objs.size = none := by
    cases z : h0.get? s.heap.objs.size with
    | none => rfl
    | some o => exact absurd (Heap.lt_size (k _ _ z)) (Nat.lt_irrefl _)
  refine upd_loop ((Walks.list (A := A.in1) hh s.heap.objs.size l hI items).toS) S (by
    simp only [List.mem_cons, List.not_mem_nil, or_false, not_or]
    exact ⟨Nat.ne_of_lt big, ne⟩) ys (by rw [hz]; exact hb) (at_place hi) (show A.units + 1 < cLine by omega) h0 hy noS (fun b hb => by rw [List.mem_singleton.mp hb]; exact noI) items.size 0 _ (#[], 0, .fresh 0 0 (!w.params.followText "set-order")) [] (Nat.zero_add _) ⟨⟨_, Heap.get?_push_size _ rfl, rfl, rfl⟩, hl.push _⟩ (Heap.get?_push_of_some _ hS) du_fresh
    ⟨fun _ z => (nomatch z), fun _ z => (by simp at z), Nat.le_refl _⟩ (fun b o e => Heap.get?_push_of_some _ (k b o e)) fun s' D L mv ho F g k' => ?_
  exact wpAny_pure (h s' D L k' mv.gens mv.drawn mv.os ho F (hz ▸ g))
/-- set(xs) of a list of tuples -/
theorem set_of {l : Addr} {items : Array Value} {ys : List Rw} {Q : Value → Shared → Prop} (hh : A.handled = none) (hl : s.heap.IsList l items) (hi : items.toList = ys.map fun y => Value.ref y.1) (hb : ys.length < 64) (hu : A.units + 6 < cLine) (hy : ∀ y ∈ ys, IsM P w s.heap y.2 y.1)
    (h : ∀ s' D L, (∀ b o, s.heap.get? b = some o → s'.heap.get? b = some o) → s'.gens = s.gens → s'.drawn = s.drawn → s'.os = s.os → s'.heap.get? s.heap.objs.size = some (sObj "set" D) → Du P w s'.heap D L → Has ys ys.length L →
      Q (.ref s.heap.objs.size) s') : wpAny (model P w) A (call (.type "set") [.ref l]) Q E s := by
  obtain ⟨c, tl, mro⟩ := F.called_set.mro
  have g1 := F.called_set.made
  have g2 := F.called_set.sub
  have g3 := F.called_set.notType
  have g4 := F.called_set.canCreate
  have g5 := F.typeCall_set_1 (.ref l)
  refine wpAny_call (codeAny_of_tree (wpAny_pure (M := model P w) (A := A.in1) (a := _) ⟨Code.quiet_builtin _ (by decide +kernel), codeAny_builtin F.entry_type_call ?_⟩))
  rw [Around.under_plain (weight_type_call_type "set" [.ref l] []) rfl]
  repeat (any_goals (first | assumption | wp_step))
  refine codeAny_mono (code_set_led1 (.ref l) (E := E) (Q₁ := fun u s1 => u = .ref s.heap.objs.size ∧ s1 = { s with heap := hSet w s.heap }) ⟨rfl, rfl⟩) fun r s1 z => ?_
  match r, z with
  | .ok (.ret u), ⟨e1, e2⟩ =>
    subst e1; subst e2
    have hS : (hSet w s.heap).get? s.heap.objs.size = some (sObj "set" (#[], 0, .fresh 0 0 (!w.params.followText "set-order"))) := Heap.get?_push_size _ rfl
    have g6 := F.called_set.init.lookup
    have g7 := F.called_set.init.bind (.ref s.heap.objs.size)
    have ty : Shared.TypeIs { s with heap := hSet w s.heap } (.ref s.heap.objs.size) "set" := ⟨_, hS, rfl⟩
    repeat (any_goals (first | assumption | wp_step))
    refine codeAny_mono (codeAny_call_builtin (R := wants (fun u s2 => u = .none ∧ Q (.ref s.heap.objs.size) s2) E) F.called_set.init.plain F.entry_set_init (check_set_init_1 ty ?_)) fun r2 s2 z2 => ?_
    · obtain ⟨⟨cls, dict, data, slots⟩, hol, rest⟩ := id hl
      have lne : s.heap.objs.size ≠ l := Nat.ne_of_gt (Heap.lt_size hol)
      have noS : s.heap.get? s.heap.objs.size = none := by
        cases z : s.heap.get? s.heap.objs.size with
        | none => rfl
        | some o => exact absurd (Heap.lt_size z) (Nat.lt_irrefl _)
      unfold Builtin.«set.__init__» noKeywords
      generalize hUF : Builtin.Frozenset.updateFrom = UF
      wp_walk
      subst hUF
      refine fill (s := { s with heap := hSet w s.heap }) (h0 := s.heap) hh hS (hl.push _) lne hi hb (show A.units + 1 + 1 + 2 < cLine by omega) hy noS (fun b o e => Heap.get?_push_of_some _ e) fun s' D L keep e1 e2 e3 ho F g => ?_
      repeat (any_goals (first | assumption | wp_step))
      exact ⟨rfl, h s' D L keep e1 e2 e3 ho F g⟩
    · match r2, z2 with
      | .ok (.ret u2), ⟨e3, q⟩ =>
        repeat (any_goals (first | assumption | wp_step))
      | .error e, z2 => exact z2
  | .error e, z => exact z
end
end MyU
end

section
set_option Elab.async false
set_option linter.all false
set_option maxRecDepth 100000
set_option maxHeartbeats 4000000
/-! sorted of a list of data: tuples of any kind, the empty one among them, too -/
namespace MyD
open PySem PySem.Spec PyProof.Rows PySem.W PySem.SeqAt PySem.Calls
def neB : PyData → Bool
  | .tuple (_ :: _) => true
  | _ => false
section
variable {prog : Program} {w : World} {A : Around} {E : Value → Shared → Prop} {s : Shared}
theorem oneLt_tup {xs ys : List PyData} {a b : Value} {as bs : List Addr} {Q : Bool → Shared → Prop} (ra : Reads s.heap a (.tuple xs) as) (rb : Reads s.heap b (.tuple ys) bs) (hal : alikeAll xs ys = true)
    (hu : A.units + min (PyData.depth (.tuple xs)) (PyData.depth (.tuple ys)) < cLine) (hq : Q (dataLt (.tuple xs) (.tuple ys)) s) : wpAny (model prog w) A (oneLt' true a b) Q E s := by
  cases ra with
  | @tuple l o vs n _ _ h1 h2 h3 h4 =>
    cases rb with
    | @tuple l' o' vs' n' _ _ k1 k2 k3 k4 =>
      have n1 : vs.size = xs.length := by simpa using ReadsAll.length _ _ _ h4
      have n2 : vs'.size = ys.length := by simpa using ReadsAll.length _ _ _ k4
      rw [dataLt_tuple, ← firstLt_toks xs ys hal, ← n1, ← n2] at hq
      rw [oneLt'_eq]
      simp only [if_true]
      refine wpAny_bind (wpAny_cRoomFor (room_here hu) ?_)
      refine wpAny_bind (wpAny_callSpecialIfBound?_slot (T := "tuple") ⟨_, h1, h2⟩ PySem.F.slot_tuple_lt (MyZ.call_tuple_lt (e := pairEq xs ys) (r := fun j => dataLt (xs.getD j .none) (ys.getD j .none)) ⟨_, h1, h2, _, h3⟩ ⟨_, k1, k2, _, k3⟩ (fun j j1 j2 => ?_) (fun j j1 j2 hj => ?_) ?_))
      · have := eqAt_alikeAll xs ys A.in1 s vs.toList vs'.toList _ _ h4 k4 hal (room_in hu) j (by simpa using j1) (by simpa using j2)
        simpa using this
      · have := rcLt_alikeAll xs ys A.in1 s vs.toList vs'.toList _ _ h4 k4 hal (room_in hu) j (by simpa using j1) (by simpa using j2) hj
        simpa using this
      · exact wpAny_truthy_bool hq
theorem firsts_map : ∀ {vs : List Value} {ds : List PyData} {Q : List (Option Value) → Shared → Prop}, EachIs (fun v d => ∃ as, Reads s.heap v d as) vs ds → (∀ d ∈ ds, ∃ xs, d = .tuple xs) → (∀ fs, fs.map Option.isSome = ds.map neB → Q fs s) → wpAny (model prog w) A (vs.mapM firstOfTuple') Q E s
  | _, _, Q, .nil, _, h => by
    rw [List.mapM_nil]
    exact wpAny_pure (h [] rfl)
  | v :: vs, d :: ds, Q, .cons ⟨as, r⟩ t, ht, h => by
    obtain ⟨xs, rfl⟩ := ht d (List.mem_cons_self ..)
    cases r with
    | @tuple l o ws n _ _ h1 h2 h3 h4 =>
      rw [List.mapM_cons]
      refine wpAny_bind ?_
      rw [kas_first_eq]
      refine wpAny_bind (Looks.here (show Looks (model prog w) s.heap (typeOf (.ref l)) o.cls from (Looks.ld h1).andThen .now) ?_)
      rw [h2, if_neg (by first | decide | simp)]
      refine wpAny_bind (listItems_at h1 h3 (wpAny_pure ?_))
      refine wpAny_bind (firsts_map t (fun d hd => ht d (List.mem_cons_of_mem _ hd)) fun fs e => wpAny_pure (h _ ?_))
      rw [List.map_cons, List.map_cons, e]
      congr 1
      have e0 : ws[0]? = ws.toList[0]? := (Array.getElem?_toList ..).symm
      rw [e0]
      cases q : ws.toList with
      | nil =>
        rw [q] at h4
        cases h4
        rfl
      | cons f r =>
        rw [q] at h4
        cases h4
        rfl
/-- tuples with items alike, the empty one among them or not -/
theorem sortsAt_tups {vs : List Value} {ds : List PyData} (e : EachIs (fun v d => ∃ as, Reads s.heap v d as) vs ds) (hal : AllAlike ds) (ht : ∀ d ∈ ds, ∃ xs, d = .tuple xs) (hu : ∀ d, d ∈ ds → A.units + d.depth < cLine) : SortsAt prog w A s (dataKind s.heap ds) vs := by
  have room : ∀ {d d' : PyData}, d ∈ ds → A.units + min d.depth d'.depth < cLine := fun {d d'} hd => Nat.lt_of_le_of_lt (Nat.add_le_add_left (Nat.min_le_left _ _) _) (hu d hd)
  by_cases full : ∀ d ∈ ds, neB d = true
  · refine SortsAt.data e hal (.inl fun d hd => ?_) hu
    obtain ⟨xs, rfl⟩ := ht d hd
    cases xs with
    | nil => exact absurd (full _ hd) (by simp [neB])
    | cons x r => exact ⟨x, r, rfl⟩
  · have nall : (ds.map neB).all id = false := by
      cases q : (ds.map neB).all id with
      | false => rfl
      | true =>
        refine absurd (fun d hd => ?_) full
        exact List.all_eq_true.mp q _ (List.mem_map.mpr ⟨d, hd, rfl⟩)
    refine ⟨fun v hv => ?_, ?_⟩
    · obtain ⟨d, hd, as, r⟩ := e.left v hv
      exact ⟨_, dataKind_some hal hd r⟩
    · cases ds with
      | nil => exact absurd (fun d hd => by cases hd) full
      | cons d₀ ds₀ =>
        have notall : ∀ fs : List (Option Value), fs.map Option.isSome = (d₀ :: ds₀).map neB → ¬ (fs.toArray.all (fun x => x.isSome)) = true := fun fs hf z => by
          have q : (fs.map Option.isSome).all id = true := by
            rw [List.all_map]
            simpa using z
          rw [hf, nall] at q
          cases q
        by_cases first : neB d₀ = true
        · refine ⟨general', ?_, fun h2 E Q hq => ?_⟩
          · intro E x y a b Q ha hb hq
            obtain ⟨d, as, hd, ra, rfl⟩ := dataKind_inv ha
            obtain ⟨d', as', hd', rb, rfl⟩ := dataKind_inv hb
            have nn : d ≠ .none := by
              obtain ⟨xs, rfl⟩ := ht d hd
              exact fun z => nomatch z
            exact oneLt_alike (f := false) (fun z => nomatch z) ra rb (hal d hd d' hd') nn (room hd) hq
          · rw [kat_kind_eq, List.mapM_toArray, map_eq_pure_bind]
            refine wpAny_bind (wpAny_bind (firsts_map e ht fun fs hf => wpAny_pure ?_))
            rw [if_neg (notall fs hf)]
            have h0 : ((fs.toArray[0]?.bind id).isSome) = true := by
              cases fs with
              | nil => cases hf
              | cons f r =>
                rw [List.map_cons, List.map_cons] at hf
                injection hf with h1 _
                rw [first] at h1
                simpa using h1
            rw [if_pos h0]
            exact wpAny_pure hq
        · refine ⟨oneType', ?_, fun h2 E Q hq => ?_⟩
          · intro E x y a b Q ha hb hq
            obtain ⟨d, as, hd, ra, rfl⟩ := dataKind_inv ha
            obtain ⟨d', as', hd', rb, rfl⟩ := dataKind_inv hb
            rw [keyLt'_oneType]
            obtain ⟨xs, rfl⟩ := ht d hd
            obtain ⟨ys, rfl⟩ := ht d' hd'
            have al := hal _ hd _ hd'
            exact oneLt_tup ra rb (by simpa [alike] using al) (room hd) hq
          · rw [kat_kind_eq, List.mapM_toArray, map_eq_pure_bind]
            refine wpAny_bind (wpAny_bind (firsts_map e ht fun fs hf => wpAny_pure ?_))
            rw [if_neg (notall fs hf)]
            have h0 : ¬ ((fs.toArray[0]?.bind id).isSome) = true := by
              cases fs with
              | nil => cases hf
              | cons f r =>
                rw [List.map_cons, List.map_cons] at hf
                injection hf with h1 _
                rw [Bool.eq_false_iff.mpr first] at h1
                simp [h1]
            rw [if_neg h0]
            rw [oneTypeOnly'_eq, List.mapM_toArray, map_eq_pure_bind]
            have hT : ∀ v ∈ vs, Looks (model prog w) s.heap (typeOf v) (Value.type "tuple") := fun v hv => by
              obtain ⟨d, hd, as, r⟩ := e.left v hv
              obtain ⟨xs, rfl⟩ := ht d hd
              exact looks_reads r
            refine wpAny_bind (wpAny_bind (wpAny_bind (kas_mapM (r := Value.type "tuple") _ (fun v hv Q' hq => (hT v hv).here hq) (wpAny_pure ?_))))
            have hall : ((List.map (fun _ => Value.type "tuple") vs).toArray.all fun x => x == Value.type "tuple") = true := by
              simp only [List.all_toArray, List.all_map, List.all_eq_true]
              intro _ _
              rfl
            have h00 : (List.map (fun _ => Value.type "tuple") vs).toArray[0]? = some (Value.type "tuple") := by
              cases vs with
              | nil => simp at h2
              | cons v r => simp
            rw [h00]
            simp only [hall, if_true]
            exact wpAny_pure (wpAny_pure hq)
/-- what is asked of the data: what the library asks, or tuples alone -/
def SortX (ds : List PyData) : Prop := Sortable ds ∨ ∀ d ∈ ds, ∃ xs, d = .tuple xs
theorem sortsAt {vs : List Value} {ds : List PyData} (e : EachIs (fun v d => ∃ as, Reads s.heap v d as) vs ds) (hal : AllAlike ds) (hk : SortX ds) (hu : ∀ d, d ∈ ds → A.units + d.depth < cLine) : SortsAt prog w A s (dataKind s.heap ds) vs :=
  hk.elim (fun h => SortsAt.data e hal h hu) fun h => sortsAt_tups e hal h hu
theorem sorted_dataX {β : Type} {R : Value → β → Prop} {vs : List Value} {bs : List β} {enc : β → PyData} {l : Addr} {Q : Value → Shared → Prop} (hl : s.heap.IsList l vs.toArray) (e : EachIs R vs bs) (er : EachIs (fun v b => ∃ as, Reads s.heap v (enc b) as) vs bs) (hal : AllAlike (bs.map enc)) (hk : SortX (bs.map enc)) (hL : bs.length ≤ sizeLine)
    (hu : ∀ b, b ∈ bs → A.units + 2 + (enc b).depth < cLine) (h : ∀ out, out.length = bs.length → EachIs R out (bs.mergeSort (dataLe false enc)) → Q (.ref (s.heap.objs.size + 1)) { s with heap := sortedAll s.heap vs (List.toArray out) }) :
    wpAny (model prog w) A (call (.builtin "sorted") [.ref l]) Q E s := by
  have er' : EachIs (fun v b => ∃ as, Reads (sortingHeap (copyHeap s.heap vs) (s.heap.objs.size + 1) vs) v (enc b) as) vs bs := er.mono fun _ _ ⟨as, r⟩ => ⟨as, PyProof.Rows.Reads.keeps (fun _ _ => sorting_copy_old) r⟩
  exact sorted_vals hl (sortsAt (s := { s with heap := sortingHeap (copyHeap s.heap vs) (s.heap.objs.size + 1) vs }) (each_map (R := fun v d => ∃ as, Reads (sortingHeap (copyHeap s.heap vs) (s.heap.objs.size + 1) vs) v d as) enc er') hal hk (bound_map hu)) (by rw [e.length]; exact hL)
    (h _ (by rw [sortVals_length false rfl]; exact e.length) (sortVals_data false e er' hal))
end
end MyD
namespace MyD
open PySem PySem.Spec PyProof.Rows L2
theorem vals_each : ∀ {out : List Value} {bs : List (V × PyData)}, PySem.W.EachIs (fun v b => RelV b.1 v) out bs → Vals (bs.map (·.1)) out
  | _, _, .nil => .nil
  | _, _, .cons r t => .cons r (vals_each t)
theorem each_vals : ∀ {us : List Value} {bs : List (V × PyData)}, Vals (bs.map (·.1)) us → PySem.W.EachIs (fun v b => RelV b.1 v) us bs
  | us, [], r => by
    cases r
    exact .nil
  | us, b :: bs, r => by
    cases r with
    | cons r1 r2 => exact .cons r1 (each_vals r2)
section
variable {X : Cx}
theorem each_reads {pins : List (Addr × Obj)} {σ : L2.St} {H : Hp} {s : Shared} (I : Inv X pins σ H s) : ∀ {us : List Value} {bs : List (V × PyData)}, Vals (bs.map (·.1)) us → (∀ b ∈ bs, Dp X.K H b.1 b.2) → PySem.W.EachIs (fun v b => ∃ as, Reads s.heap v b.2 as) us bs
  | us, [], r, _ => by
    cases r
    exact .nil
  | us, b :: bs, r, h => by
    cases r with
    | cons r1 r2 => exact .cons (Dp.reads I _ _ _ (h b (List.mem_cons_self ..)) r1) (each_reads I r2 fun c hc => h c (List.mem_cons_of_mem _ hc))
/-- sorted(xs), xs a list of data that can be compared: a new list of the same, THE sorted one -/
def rSortedD (K : PySem.W.Frag) : List V → Hp → VK → Prop := fun vs H Q => ∃ (a : Addr) (bs : List (V × PyData)), vs = [V.ref a] ∧ SqL K H a (bs.map (·.1)) ∧ (∀ b ∈ bs, Dp K H b.1 b.2) ∧ PySem.W.AllAlike (bs.map (·.2)) ∧ SortX (bs.map (·.2)) ∧ (∀ b ∈ bs, b.2.depth ≤ 60) ∧
  ∀ p, H p = none → Q (.ref p) (upd H p (.lst ((bs.mergeSort (PySem.W.dataLe false (·.2))).map (·.1))))
theorem cr_sortedDt (hu : X.A.units + 64 < cLine) : CallR X (.builtin "sorted") (rSortedD X.K) := by
  intro pins s σ H vs us Q I r h
  obtain ⟨a, bs, rfl, hs, hd, hal, hk, dep, q⟩ := h
  obtain ⟨its, rv, hl, hz⟩ := I.list hs
  obtain ⟨u, rfl, ru⟩ := vals1 r
  obtain rfl : u = Value.ref a := ru
  have len : its.length = bs.length := by rw [← rv.length, List.length_map]
  rw [List.length_map] at hz
  refine sorted_dataX (R := fun v (b : V × PyData) => RelV b.1 v) (enc := (·.2)) hl.isList (each_vals rv) (each_reads I rv hd) hal hk hz (fun b hb => by have := dep b hb; omega) fun out lo eo => ?_
  obtain ⟨n, hn⟩ := sortedAll_at s.heap its out.toArray
  refine ⟨.ref (s.heap.objs.size + 1), upd H (s.heap.objs.size + 1) (.lst ((bs.mergeSort (PySem.W.dataLe false (·.2))).map (·.1))), I.laid (t' := s.toks) (fun _ _ => sortedAll_old) (Nat.le_succ _) ⟨?_, out, n, vals_each eo, hn⟩, rfl, q _ (I.hok.fresh (Nat.le_succ _))⟩
  rw [List.length_map, List.length_mergeSort]
  exact hz
end
end MyD
end

section
set_option Elab.async false
set_option linter.all false
set_option maxRecDepth 100000
set_option maxHeartbeats 4000000
/-! dict(pairs) with tuple keys; sorted of a dict with tuple keys -/
namespace MyE2
open PySem PySem.Spec PyProof.Rows L2 PySem.W
def mergeT (kvs more : List (List L2.Key × V)) : List (List L2.Key × V) := more.foldl (fun acc kv => putK acc kv.1 kv.2) kvs
theorem merge_len : ∀ (more acc : List (List L2.Key × V)), (mergeT acc more).length ≤ acc.length + more.length
  | [], acc => Nat.le_refl _
  | kv :: more, acc => by
    have h := merge_len more (putK acc kv.1 kv.2)
    have h2 : (putK acc kv.1 kv.2).length ≤ acc.length + 1 := by
      unfold putK
      split
      · rw [List.length_map]; omega
      · rw [List.length_append]; exact Nat.le_refl _
    show (mergeT (putK acc kv.1 kv.2) more).length ≤ _
    rw [List.length_cons]
    omega
abbrev Ent := List L2.Key × Addr × V
theorem kt_merge {H : Hp} : ∀ {es : List Ent} {xs : List (List L2.Key × Addr × Value)} {kvs : List (List L2.Key × V)} {acc : List (List L2.Key × Addr × Value)}, Paired (fun (e : Ent) x => x.1 = e.1 ∧ x.2.1 = e.2.1 ∧ RelV e.2.2 x.2.2 ∧ H e.2.1 = some (.tup (e.1.map kV))) es xs → KT H kvs acc →
    KT H (mergeT kvs (es.map fun e => (e.1, e.2.2))) (storedAllH acc xs)
  | _, _, kvs, acc, .nil, h => h
  | _, _, kvs, acc, .cons (a := e) (b := x) r t, h => by
    obtain ⟨h1, h2, h3, h4⟩ := r
    have h5 := KT.put h e.1 (b := e.2.1) h4 h3
    obtain ⟨x1, x2, x3⟩ := x
    simp only at h1 h2 h3
    subst h1 h2
    show KT H (mergeT (putK kvs e.1 e.2.2) _) (storedAllH (storedH acc e.1 e.2.1 x3) _)
    exact kt_merge t h5
section
variable {X : Cx}
theorem ents_of {pins : List (Addr × Obj)} {σ : L2.St} {H : Hp} {s : Shared} (I : L2.Inv X pins σ H s) : ∀ {ps : List Addr} {es : List Ent}, Paired (fun p (e : Ent) => SqT X.K H p [.ref e.2.1, e.2.2] ∧ H e.2.1 = some (.tup (e.1.map kV))) ps es →
    ∃ xs : List (List L2.Key × Addr × Value), Paired (fun (e : Ent) x => x.1 = e.1 ∧ x.2.1 = e.2.1 ∧ RelV e.2.2 x.2.2 ∧ H e.2.1 = some (.tup (e.1.map kV))) es xs ∧ xs.length = ps.length ∧
      ∀ (j : Nat) (x : List L2.Key × Addr × Value), xs[j]? = some x → ∃ b, ps[j]? = some b ∧ IsTup s.heap b #[.ref x.2.1, x.2.2]
  | _, _, .nil => ⟨[], .nil, rfl, fun j q e => by simp at e⟩
  | _, _, .cons (a := p) (b := e) h t => by
    obtain ⟨xs, r, hl, hp⟩ := ents_of I t
    obtain ⟨its, rv, ht, _⟩ := I.tuple h.1
    obtain ⟨u, y, ei, ru, ry⟩ := vals2 rv
    subst ei
    obtain rfl : u = Value.ref e.2.1 := ru
    refine ⟨(e.1, e.2.1, y) :: xs, .cons ⟨rfl, rfl, ry, h.2⟩ r, by rw [List.length_cons, List.length_cons, hl], fun j x ex => ?_⟩
    cases j with
    | zero =>
      have e' : (e.1, e.2.1, y) = x := Option.some.inj ex
      subst e'
      exact ⟨p, rfl, ht⟩
    | succ j =>
      obtain ⟨b, e1, e2⟩ := hp j x (by simpa using ex)
      exact ⟨b, by simpa using e1, e2⟩
theorem keyis_of {H : Hp} : ∀ {es : List Ent} {xs : List (List L2.Key × Addr × Value)}, Paired (fun (e : Ent) x => x.1 = e.1 ∧ x.2.1 = e.2.1 ∧ RelV e.2.2 x.2.2 ∧ H e.2.1 = some (.tup (e.1.map kV))) es xs →
    ∀ x ∈ xs, ∃ e : Ent, x.1 = e.1 ∧ x.2.1 = e.2.1 ∧ H e.2.1 = some (.tup (e.1.map kV))
  | _, _, .nil => fun x hx => by cases hx
  | _, _, .cons (a := e) (b := x) r t => fun y hy => by
    rcases List.mem_cons.mp hy with rfl | hy
    · exact ⟨e, r.1, r.2.1, r.2.2.2⟩
    · exact keyis_of t y hy
/-- dict(xs) of a list of pairs (tuple, value) -/
theorem call_dictPT (hcalm : X.calm = true) (hu : X.A.units + 64 < cLine) : CallR X (.type "dict") (fun xs H Q => ∃ (a : Addr) (ps : List Addr) (es : List Ent), xs = [.ref a] ∧ SqL X.K H a (ps.map V.ref) ∧ Paired (fun p (e : Ent) => SqT X.K H p [.ref e.2.1, e.2.2] ∧ H e.2.1 = some (.tup (e.1.map kV))) ps es ∧
    ∀ p, H p = none → Q (.ref p) (upd H p (.dT (mergeT [] (es.map fun e => (e.1, e.2.2)))))) := by
  intro pins s σ H xs us Q I r q
  obtain ⟨a, ps, es, rfl, hq, hp, q⟩ := q
  obtain ⟨u, rfl, rx⟩ := vals1 r
  cases rx
  obtain ⟨its, rv, pl, hz⟩ := I.list hq
  have ei := refs_at rv
  subst ei
  rw [List.length_map] at hz
  obtain ⟨xsH, rel, hl, hpr⟩ := ents_of I hp
  obtain ⟨o, n, ho, hc, hd, hdat⟩ := pl
  have P := PairArg.list (prog := X.prog) (w := X.w) a (ps.map Value.ref).toArray (fun j => ps.getD j 0) (xsH.map fun x => (Value.ref x.2.1, x.2.2))
  have keyis : ∀ x ∈ xsH, ∃ e : Ent, x.1 = e.1 ∧ x.2.1 = e.2.1 ∧ H e.2.1 = some (.tup (e.1.map kV)) := by
    exact keyis_of rel
  have hkey : ∀ x ∈ xsH, (tupleKind (mixKind X.prog X.w)).is s.heap x.1 x.2.1 := fun x hx => by
    obtain ⟨e, e1, e2, e3⟩ := keyis x hx
    rw [e1, e2]
    exact key_of I.hok e3
  refine call_dict_pairsH (knd := tupleKind (mixKind X.prog X.w)) (ps := xsH) P (I.ok.hd hcalm) ?_ ⟨⟨o, n, ho, hc, hd, hdat⟩, ?_⟩ ⟨?_, ?_⟩ ?_ ?_ fun h' tk hd' hk => ?_
  · exact tupleKind_room_in1 (by show X.A.units + 1 + 1 < cLine; omega)
  · refine ⟨by rw [List.size_toArray, List.length_map, List.length_map, hl], fun j k v hj => ?_⟩
    rw [List.getElem?_map] at hj
    obtain ⟨x, hx, e⟩ := Option.map_eq_some_iff.mp hj
    obtain ⟨b, e1, e2⟩ := hpr j x hx
    injection e with e3 e4
    subst e3 e4
    refine ⟨?_, ?_⟩
    · show _ = some (Value.ref (ps.getD j 0))
      rw [List.getElem?_toArray, List.getElem?_map, e1, List.getD_eq_getElem?_getD, e1]
      rfl
    · refine .inl (show s.heap.IsTuple (ps.getD j 0) _ from ?_)
      rw [List.getD_eq_getElem?_getD, e1]
      exact e2
  · rw [List.length_map]
  · intro j key v hrel
    have hj : (xsH.map fun x => (Value.ref x.2.1, x.2.2))[j]? = some (key, v) := hrel
    rw [List.getElem?_map] at hj
    obtain ⟨x, hx, e⟩ := Option.map_eq_some_iff.mp hj
    injection e with e3 e4
    obtain ⟨x1, x2, x3⟩ := x
    simp only at e3 e4
    subst e3 e4
    exact ⟨x1, x2, hx, rfl⟩
  · intro h' hk x hx
    obtain ⟨o2, it, n2, e1, e2, e3, e4⟩ := hkey x hx
    exact ⟨o2, it, n2, hk _ _ (Nat.ne_of_lt (Heap.lt_size e1)) (by simp) e1, e2, e3, e4⟩
  · rw [List.length_map, hl]
    exact hz
  · have k2 : ∀ b o, s.heap.get? b = some o → h'.get? b = some o := fun b o e => hk b o (by simp) e
    have hm : (s.heap.objs.size == sysModules) = false := beq_eq_false_iff_ne.mpr (Nat.ne_of_gt I.big)
    have hlen : (mergeT [] (es.map fun e => (e.1, e.2.2))).length ≤ sizeLine := by
      refine Nat.le_trans (merge_len _ []) ?_
      rw [List.length_nil, Nat.zero_add, List.length_map, rel.length, hl]
      exact hz
    obtain ⟨o', es', ep', ho', hx', hdat', hes', his', hn'⟩ := hd'
    have nf : H s.heap.objs.size = none := I.hok.fresh (Nat.le_refl _)
    have kt : KT H (mergeT [] (es.map fun e => (e.1, e.2.2))) (storedAllH [] xsH) := kt_merge rel .nil
    refine ⟨.ref s.heap.objs.size, upd H s.heap.objs.size (.dT (mergeT [] (es.map fun e => (e.1, e.2.2)))), I.laid (t' := tk) k2 (Nat.le_refl _) (show ObjOk X.prog X.w _ _ _ (.dT (mergeT [] (es.map fun e => (e.1, e.2.2)))) from ⟨hlen, hm, storedAllH [] xsH, kt.keeps (fun b ys e => by rw [upd_ne (ne_of_none e nf)]; exact e), o', es', ep', ho', hx', hdat', hes', hn'⟩), rfl, q _ nf⟩
end
end MyE2
end

section
set_option Elab.async false
set_option linter.all false
set_option maxRecDepth 100000
set_option maxHeartbeats 4000000
/-! lists of tuples of texts: their one ascending order; sorted of a set and of a dict of such -/
namespace MyR
open PySem PySem.Spec PyProof.Rows L2 PySem.W
/-- a tuple of texts as data -/
def encR (r : List Str) : PyData := .tuple (r.map .str)
def leR : List Str → List Str → Bool := dataLe false encR
theorem toks_inj : ∀ {r q : List Str}, keyToksAll (r.map .str) = keyToksAll (q.map .str) → r = q
  | [], [], _ => rfl
  | [], _ :: _, h => by simp [keyToksAll] at h
  | _ :: _, [], h => by simp [keyToksAll] at h
  | x :: r, y :: q, h => by
    simp only [List.map_cons, keyToksAll, keyToks, List.cons_append, List.nil_append, List.cons.injEq, Sum.inr.injEq, true_and] at h
    rw [str_of_cps h.1, toks_inj h.2]
theorem leR_tot : TotalLe leR := sortLe_total (listOrd itemOrd) false fun r => keyToks (encR r)
theorem leR_anti {r q : List Str} (h : leR r q = true) (k : leR q r = true) : r = q := by
  have h' : (!(listOrd itemOrd).blt (keyToks (encR q)) (keyToks (encR r))) = true := h
  have k' : (!(listOrd itemOrd).blt (keyToks (encR r)) (keyToks (encR q))) = true := k
  have e := (listOrd itemOrd).total _ _ (by simpa using k') (by simpa using h')
  simp only [encR, keyToks] at e
  exact toks_inj e
/-- the ascending list -/
def asc (rs : List (List Str)) : List (List Str) := rs.mergeSort leR
theorem asc_perm (rs : List (List Str)) : (asc rs).Perm rs := List.mergeSort_perm _ _
theorem asc_up (rs : List (List Str)) : (asc rs).Pairwise fun a b => leR a b = true := sort_pairwise leR_tot rs
theorem mem_asc {rs : List (List Str)} {r : List Str} : r ∈ asc rs ↔ r ∈ rs := (asc_perm rs).mem_iff
theorem up_uniq : ∀ {l m : List (List Str)}, (l.Pairwise fun a b => leR a b = true) → (m.Pairwise fun a b => leR a b = true) → l.Perm m → l = m
  | [], m, _, _, p => p.nil_eq
  | a :: l, [], _, _, p => absurd p.symm.nil_eq (by simp)
  | a :: l, b :: m, hl, hm, p => by
    obtain ⟨l1, l2⟩ := List.pairwise_cons.mp hl
    obtain ⟨m1, m2⟩ := List.pairwise_cons.mp hm
    have e : a = b := by
      rcases List.mem_cons.mp (p.mem_iff.mp List.mem_cons_self) with e | ha
      · exact e
      · rcases List.mem_cons.mp (p.mem_iff.mpr List.mem_cons_self) with e | hb
        · exact e.symm
        · exact leR_anti (l1 b hb) (m1 a ha)
    subst e
    rw [up_uniq l2 m2 (List.perm_cons _ |>.mp p)]
theorem asc_of_perm {l m : List (List Str)} (p : l.Perm m) : asc l = asc m := up_uniq (asc_up l) (asc_up m) ((asc_perm l).trans (p.trans (asc_perm m).symm))
theorem asc_id {l : List (List Str)} (h : l.Pairwise fun a b => leR a b = true) : asc l = l := up_uniq (asc_up l) h (asc_perm l)
theorem perm_sub {α : Type} [BEq α] [LawfulBEq α] : ∀ {L ss : List α}, L.Nodup → (∀ y, y ∈ L → y ∈ ss) → ss.length ≤ L.length → L.Perm ss
  | [], ss, _, _, h => by
    have e : ss = [] := List.eq_nil_of_length_eq_zero (Nat.le_zero.mp h)
    rw [e]
  | x :: L, ss, n, m, h => by
    obtain ⟨n1, n2⟩ := List.nodup_cons.mp n
    have hx := m x (List.mem_cons_self ..)
    have hz := List.length_erase_of_mem hx
    rw [List.length_cons] at h
    have q := perm_sub (ss := ss.erase x) n2 (fun y hy => (List.mem_erase_of_ne fun (e : y = x) => n1 (e ▸ hy)).mpr (m y (List.mem_cons_of_mem _ hy))) (by omega)
    exact (q.cons x).trans (List.perm_cons_erase hx).symm
theorem perm_nd {l m : List (List Str)} (nl : l.Nodup) (nm : m.Nodup) (h : ∀ r, r ∈ l ↔ r ∈ m) : l.Perm m := (List.perm_ext_iff_of_nodup nl nm).mpr h
theorem nd_erase {α : Type} [BEq α] [LawfulBEq α] : ∀ l : List α, l.eraseDups.Nodup
  | [] => by rw [List.eraseDups_nil]; exact List.nodup_nil
  | a :: l => by
    rw [List.eraseDups_cons]
    refine List.nodup_cons.mpr ⟨fun h => ?_, nd_erase _⟩
    rw [List.mem_eraseDups, List.mem_filter] at h
    simp at h
termination_by l => l.length
decreasing_by exact Nat.lt_succ_of_le (List.length_filter_le ..)
/-- the ascending list without doubles -/
def uni (rs : List (List Str)) : List (List Str) := asc rs.eraseDups
theorem uni_nd (rs : List (List Str)) : (uni rs).Nodup := (asc_perm _).nodup_iff.mpr (nd_erase _)
theorem mem_uni {rs : List (List Str)} {r : List Str} : r ∈ uni rs ↔ r ∈ rs := by rw [uni, mem_asc, List.mem_eraseDups]
theorem uni_of {rs l : List (List Str)} (n : l.Nodup) (m : ∀ r, r ∈ l ↔ r ∈ rs) : asc l = uni rs :=
  asc_of_perm (perm_nd n (nd_erase _) fun r => by rw [m, List.mem_eraseDups])
theorem uni_up (rs : List (List Str)) : (uni rs).Pairwise fun a b => leR a b = true := asc_up _
theorem uni_congr {l m : List (List Str)} (h : ∀ r, r ∈ l ↔ r ∈ m) : uni l = uni m := uni_of (nd_erase _) fun r => by rw [List.mem_eraseDups]; exact h r
theorem uni_id {l : List (List Str)} (u : l.Pairwise fun a b => leR a b = true) (n : l.Nodup) : uni l = l := (uni_of n fun _ => Iff.rfl).symm.trans (asc_id u)
end MyR
namespace MyR
open PySem PySem.Spec PyProof.Rows L2 PySem.W PySem.Froz
section
variable {X : Cx}
/-- what sorted does once the things are collected -/
theorem sort_rest {pins : List (Addr × Obj)} {σ : L2.St} {H : Hp} {s s1 : Shared} {acc : List Value} {bs : List (V × PyData)} {Q : VK} (hu : X.A.units + 64 < cLine) (I : L2.Inv X pins σ H s) (hd : ∀ b ∈ bs, Dp X.K H b.1 b.2) (hal : AllAlike (bs.map (·.2))) (hk : MyD.SortX (bs.map (·.2)))
    (dep : ∀ b ∈ bs, b.2.depth ≤ 50) (hz : bs.length ≤ sizeLine) (k1 : ∀ b o, s.heap.get? b = some o → s1.heap.get? b = some o) (z1 : s.heap.objs.size ≤ s1.heap.objs.size) (g1 : s1.gens = s.gens) (o1 : s1.os = s.os) (rv : Vals (bs.map (·.1)) acc)
    (q : ∀ p, H p = none → Q (.ref p) (upd H p (.lst ((bs.mergeSort (dataLe false (·.2))).map (·.1))))) : wpAny (model X.prog X.w) X.A.in1 (newList acc >>= fun l => holding [l] (call (.builtin "list.sort") [l]) >>= fun _ => ret l) (fun f s' => ∃ v, f = .done (.ret v) ∧ EP X pins σ Q v s') X.xe s1 := by
  have len : acc.length = bs.length := by rw [← rv.length, List.length_map]
  refine wpAny_bind (wpAny_newList ?_ (by rw [len]; exact hz))
  have hoL : (s1.heap.push (seqObj "list" acc.toArray 0)).get? s1.heap.objs.size = some (seqObj "list" acc.toArray 0) := Heap.get?_push_size _ rfl
  have er : EachIs (fun v (b : V × PyData) => ∃ as, Reads s.heap v b.2 as) acc bs := MyD.each_reads I rv hd
  have far : ∀ b o, s.heap.get? b = some o → (sortingHeap (s1.heap.push (seqObj "list" acc.toArray 0)) s1.heap.objs.size acc).get? b = some o := fun b o e => by
    have e1 := k1 b o e
    exact sortingHeap_old (Nat.ne_of_lt (Heap.lt_size e1)) (Heap.get?_push_of_some _ e1)
  have er' : EachIs (fun v (b : V × PyData) => ∃ as, Reads (sortingHeap (s1.heap.push (seqObj "list" acc.toArray 0)) s1.heap.objs.size acc) v b.2 as) acc bs :=
    er.mono fun _ _ ⟨as, r⟩ => ⟨as, PyProof.Rows.Reads.keeps (fun _ _ => far _ _) r⟩
  have S : SortsAt X.prog X.w X.A.in1.in1 { s1 with heap := sortingHeap (s1.heap.push (seqObj "list" acc.toArray 0)) s1.heap.objs.size acc } (dataKind (sortingHeap (s1.heap.push (seqObj "list" acc.toArray 0)) s1.heap.objs.size acc) (bs.map (·.2))) acc :=
    MyD.sortsAt (s := { s1 with heap := sortingHeap (s1.heap.push (seqObj "list" acc.toArray 0)) s1.heap.objs.size acc }) (each_map (R := fun v d => ∃ as, Reads (sortingHeap (s1.heap.push (seqObj "list" acc.toArray 0)) s1.heap.objs.size acc) v d as) (fun b : V × PyData => b.2) er') hal hk
      fun d hd' => by
        obtain ⟨b, hb, rfl⟩ := List.mem_map.mp hd'
        have := dep b hb
        show X.A.units + 1 + 1 + _ < cLine
        omega
  refine wpAny_bind (wpAny_holding (wpAny_call_entry PyProof.Rows.slot_list_sort ⟨_, hoL, rfl⟩ PyProof.Rows.entry_list_sort
    (list_sort_vals (s := { s1 with heap := s1.heap.push (seqObj "list" acc.toArray 0) }) hoL S (by rw [len]; exact hz) ⟨_, rfl, ?_⟩) (PyProof.Rows.args_list_sort _)))
  have eo := sortVals_data (R := fun v (b : V × PyData) => RelV b.1 v) (enc := fun b : V × PyData => b.2) false (MyD.each_vals rv) er' hal
  generalize sortVals (dataKind (sortingHeap (s1.heap.push (seqObj "list" acc.toArray 0)) s1.heap.objs.size acc) (bs.map (·.2))) false acc acc = out at eo ⊢
  obtain ⟨c, hc⟩ := PyProof.Rows.sortedHeap_at (vs := acc) (out := out.toArray) hoL
  have old : ∀ b o, s.heap.get? b = some o → (sortedHeap (s1.heap.push (seqObj "list" acc.toArray 0)) s1.heap.objs.size acc out.toArray).get? b = some o := fun b o e => by
    have e1 := k1 b o e
    have lt := Heap.lt_size e1
    rw [PyProof.Rows.sortedHeap_old (Nat.ne_of_lt lt) (by rw [size_push']; exact Nat.lt_succ_of_lt lt)]
    exact Heap.get?_push_of_some _ e1
  exact wpAny_pure ⟨_, rfl, .ref s1.heap.objs.size, _, MyS.inv_back (o := .lst ((bs.mergeSort (dataLe false (·.2))).map (·.1))) I old g1 o1 z1
    (show ObjOk X.prog X.w _ _ _ (.lst _) from ⟨by rw [List.length_map, List.length_mergeSort]; exact hz, out, c, MyD.vals_each eo, hc⟩), rfl, q _ (I.hok.fresh z1)⟩

theorem alike_strs : ∀ r q : List Str, alikeAll (r.map .str) (q.map .str) = true
  | [], _ => by simp [alikeAll]
  | _ :: _, [] => by simp [alikeAll]
  | x :: r, y :: q => by
    show alikeAll (.str x :: r.map .str) (.str y :: q.map .str) = true
    rw [alikeAll, alike_strs r q]
    simp [alike]
theorem depth_strs : ∀ r : List Str, PyData.depthAll (r.map .str) = 0
  | [] => by simp [PyData.depthAll]
  | x :: r => by
    show PyData.depthAll (.str x :: r.map .str) = 0
    rw [PyData.depthAll, depth_strs r]
    simp [PyData.depth]
theorem dp_strs {K : PySem.W.Frag} {H : Hp} : ∀ r : List Str, DpAll K H (r.map V.str) (r.map .str)
  | [] => .nil
  | x :: r => .cons (.str x) (dp_strs r)
/-- a tuple of texts by its place -/
abbrev Rs : Type := Addr × List Str
def RowsAt (H : Hp) (ps : List Rs) : Prop := ∀ p ∈ ps, H p.1 = some (.tup (p.2.map V.str))
def refs (ps : List Rs) : List V := ps.map fun p => V.ref p.1
def itR (p : Rs) : V × PyData := (.ref p.1, encR p.2)
def srt (ps : List Rs) : List Rs := ps.mergeSort fun p q => leR p.2 q.2
theorem srt_perm (ps : List Rs) : (srt ps).Perm ps := List.mergeSort_perm _ _
theorem srt_snd (ps : List Rs) : (srt ps).map (·.2) = asc (ps.map (·.2)) := sort_maps (fun p : Rs => p.2) fun _ _ _ _ => rfl
theorem srt_it (ps : List Rs) : ((ps.map itR).mergeSort (dataLe false (·.2))).map (·.1) = refs (srt ps) := by
  have e : (srt ps).map itR = (ps.map itR).mergeSort (dataLe false (·.2)) := sort_maps itR fun _ _ _ _ => rfl
  rw [← e, List.map_map]
  rfl
theorem it_fst (ps : List Rs) : (ps.map itR).map (·.1) = refs ps := by rw [List.map_map] <;> rfl
theorem RowsAt.perm {H : Hp} {ps qs : List Rs} (h : RowsAt H ps) (p : qs.Perm ps) : RowsAt H qs := fun x hx => h x (p.mem_iff.mp hx)
theorem RowsAt.upd {H : Hp} {ps : List Rs} (h : RowsAt H ps) {a : Addr} {o : HO} (ha : H a = none) : RowsAt (L2.upd H a o) ps := fun p hp => by
  rw [upd_ne (ne_of_none (h p hp) ha)]
  exact h p hp
theorem it_ok {K : PySem.W.Frag} {H : Hp} {ps : List Rs} (h : RowsAt H ps) : (∀ b ∈ ps.map itR, Dp K H b.1 b.2) ∧ AllAlike ((ps.map itR).map (·.2)) ∧ MyD.SortX ((ps.map itR).map (·.2)) ∧ ∀ b ∈ ps.map itR, b.2.depth ≤ 50 := by
  refine ⟨fun b hb => ?_, ?_, .inr fun d hd => ?_, fun b hb => ?_⟩
  · obtain ⟨p, hp, rfl⟩ := List.mem_map.mp hb
    exact .tup (SqT.of (h p hp)) (dp_strs _)
  · intro d hd d' hd'
    obtain ⟨b, hb, rfl⟩ := List.mem_map.mp hd
    obtain ⟨b', hb', rfl⟩ := List.mem_map.mp hd'
    obtain ⟨p, hp, rfl⟩ := List.mem_map.mp hb
    obtain ⟨p', hp', rfl⟩ := List.mem_map.mp hb'
    show alike (encR p.2) (encR p'.2) = true
    rw [encR, encR, alike]
    exact alike_strs _ _
  · obtain ⟨b, hb, rfl⟩ := List.mem_map.mp hd
    obtain ⟨p, hp, rfl⟩ := List.mem_map.mp hb
    exact ⟨_, rfl⟩
  · obtain ⟨p, hp, rfl⟩ := List.mem_map.mp hb
    show PyData.depth (.tuple (p.2.map .str)) ≤ 50
    rw [PyData.depth, depth_strs]
    decide
/-- sorted(xs), xs a list of tuples of texts -/
def rSortRows (K : PySem.W.Frag) : List V → Hp → VK → Prop := fun vs H Q => ∃ (a : Addr) (ps : List Rs), vs = [V.ref a] ∧ SqL K H a (refs ps) ∧ RowsAt H ps ∧
  ∀ p qs, qs.Perm ps → qs.map (·.2) = asc (ps.map (·.2)) → H p = none → Q (.ref p) (L2.upd H p (.lst (refs qs)))
theorem cr_sortRows (hu : X.A.units + 64 < cLine) : CallR X (.builtin "sorted") (rSortRows X.K) := by
  intro pins s σ H vs us Q I r h
  obtain ⟨a, ps, rfl, hs, hr, q⟩ := h
  obtain ⟨i1, i2, i3, i4⟩ := it_ok (K := X.K) hr
  refine MyD.cr_sortedDt hu pins s σ H _ us Q I r ⟨a, ps.map itR, rfl, by rw [it_fst]; exact hs, i1, i2, i3, fun b hb => Nat.le_trans (i4 b hb) (by decide), fun p hp => ?_⟩
  rw [srt_it]
  exact q p _ (srt_perm ps) (srt_snd ps) hp
/-! the set -/
def kR (p : Rs) : MyU.Rw := (p.1, p.2.map Sum.inr)
theorem kv_inr (r : List Str) : (r.map (Sum.inr : Str → L2.Key)).map kV = r.map V.str := by rw [List.map_map] <;> rfl
theorem kR_inj {p q : Rs} (h : kR p = kR q) : p = q := by
  obtain ⟨a, r⟩ := p
  obtain ⟨b, t⟩ := q
  simp only [kR, Prod.mk.injEq] at h
  rw [h.1, (List.map_inj_right (fun x y => by exact Sum.inr.inj)).mp h.2]
theorem back_kR {ps : List Rs} : ∀ {L : List MyU.Rw}, (∀ y ∈ L, y ∈ ps.map kR) → ∃ L' : List Rs, L = L'.map kR ∧ ∀ p ∈ L', p ∈ ps
  | [], _ => ⟨[], rfl, fun _ h => nomatch h⟩
  | y :: L, h => by
    obtain ⟨p, hp, e⟩ := List.mem_map.mp (h y List.mem_cons_self)
    obtain ⟨L', e', h'⟩ := back_kR (L := L) fun z hz => h z (List.mem_cons_of_mem _ hz)
    exact ⟨p :: L', by rw [List.map_cons, e, e'], fun z hz => (List.mem_cons.mp hz).elim (fun e => e ▸ hp) (h' z)⟩
/-- the set at a of the tuples L, apart from the tuples -/
structure Du0 (P : Program) (w : World) (D : SD) (L : List MyU.Rw) : Prop where
  ent : D.1.toList = L.map (MyU.rowE P w)
  tab : TabOk D.2.2 (L.map fun x => MyU.uH P w x.2)
  nd : (L.map (·.2)).Nodup
  led : w.params.followText "set-order" = true ∨ D.2.2.led = true
  room : L.length * 5 < D.2.2.mask * 3
  few : L.length < 64
def SetR (P : Program) (w : World) (a : Addr) (L : List Rs) : HO := .ext fun h => ∃ D, h.get? a = some (sObj "set" D) ∧ Du0 P w D (L.map kR)
theorem setR_ok {P : Program} {w : World} {H : Hp} {h : Heap} {a : Addr} {L : List Rs} (R : ∃ D, h.get? a = some (sObj "set" D) ∧ Du0 P w D (L.map kR)) : ObjOk P w H h a (SetR P w a L) := by
  obtain ⟨D, ho, F⟩ := id R
  exact ⟨R, ⟨_, ho⟩, fun h1 h2 p k => by
    obtain ⟨D2, ho2, F2⟩ := p
    exact ⟨D2, k _ ho2, F2⟩⟩
theorem isM_of {pins : List (Addr × Obj)} {σ : L2.St} {H : Hp} {s : Shared} (I : L2.Inv X pins σ H s) {p : Rs} (h : H p.1 = some (.tup (p.2.map V.str))) : MyU.IsM X.prog X.w s.heap (kR p).2 (kR p).1 :=
  key_of (ks := p.2.map Sum.inr) I.hok (by rw [kv_inr]; exact h)
def rSetR (K : PySem.W.Frag) (P : Program) (w : World) : List V → Hp → VK → Prop := fun vs H Q => ∃ (a : Addr) (ps : List Rs), vs = [V.ref a] ∧ SqL K H a (refs ps) ∧ RowsAt H ps ∧ ps.length < 64 ∧
  ∀ b L, H b = none → (∀ y ∈ L, y ∈ ps) → (∀ y ∈ ps, y.2 ∈ L.map (·.2)) → (L.map (·.2)).Nodup → Q (.ref b) (L2.upd H b (SetR P w b L))
theorem cr_setR (hc : X.calm = true) (hu : X.A.units + 64 < cLine) : CallR X (.type "set") (rSetR X.K X.prog X.w) := by
  intro pins s σ H vs us Q I r h
  obtain ⟨a, ps, rfl, hs, hr, few, q⟩ := h
  rw [Vals.ref1 r]
  obtain ⟨its, rv, pl, hz⟩ := I.list hs
  have ei : its = ps.map fun p => Value.ref p.1 := by
    have : its = (ps.map fun p => p.1).map Value.ref := by
      have rv' : Vals ((ps.map fun p => p.1).map V.ref) its := by rw [List.map_map]; exact rv
      exact refs_at rv'
    rw [this, List.map_map] <;> rfl
  refine MyU.set_of (P := X.prog) (w := X.w) (ys := ps.map kR) (I.ok.hd hc) pl.isList (by rw [ei, List.map_map] <;> rfl) (by rw [List.length_map]; exact few) (by omega) (fun y hy => ?_) fun s' D L k g d os ho F hs' => ?_
  · obtain ⟨p, hp, rfl⟩ := List.mem_map.mp hy
    exact isM_of I (hr p hp)
  · obtain ⟨L', e, sub⟩ := back_kR (ps := ps) (L := L) fun y hy => List.mem_of_mem_take (hs'.of y hy)
    subst e
    have nd : (L'.map (·.2)).Nodup := by
      have z := F.nd
      rw [List.map_map, show L'.map ((fun x : MyU.Rw => x.2) ∘ kR) = (L'.map (·.2)).map (List.map Sum.inr) by rw [List.map_map] <;> rfl] at z
      exact L2.nodup_of_map z
    refine ⟨.ref _, _, MyS.inv_back I k g os (Nat.le_refl _) (setR_ok ⟨D, ho, F.ent, F.tab, F.nd, F.led, F.room, F.few⟩), rfl, q _ L' (I.hok.fresh (Nat.le_refl _)) sub (fun y hy => ?_) nd⟩
    have z := hs'.all (kR y) (by rw [List.take_length]; exact List.mem_map.mpr ⟨y, hy, rfl⟩)
    rw [List.map_map] at z
    obtain ⟨p, hp, e⟩ := List.mem_map.mp z
    have e' : p.2 = y.2 := List.map_inj_right (fun x y => by exact Sum.inr.inj) |>.mp e
    exact List.mem_map.mpr ⟨p, hp, e'⟩

/-- sorted(s) of a set of tuples -/
def rSortSet (P : Program) (w : World) : List V → Hp → VK → Prop := fun vs H Q => ∃ (a : Addr) (L : List Rs), vs = [V.ref a] ∧ H a = some (SetR P w a L) ∧ RowsAt H L ∧
  ∀ p qs, qs.Perm L → qs.map (·.2) = asc (L.map (·.2)) → H p = none → Q (.ref p) (L2.upd H p (.lst (refs qs)))
theorem rows_perm : ∀ {out : List Value} {L : List Rs}, out.Perm (L.map fun p => Value.ref p.1) → ∃ L' : List Rs, out = (L'.map fun p => Value.ref p.1) ∧ L'.Perm L := by
  intro out L pm
  have key : ∀ {out vs : List Value}, out.Perm vs → ∀ L : List Rs, vs = (L.map fun p => Value.ref p.1) → ∃ L' : List Rs, out = (L'.map fun p => Value.ref p.1) ∧ L'.Perm L := by
    intro out vs pm
    induction pm with
    | nil =>
      intro L e
      exact ⟨L, e, .refl _⟩
    | cons x _ ih =>
      intro L e
      cases L with
      | nil => cases e
      | cons p L =>
        injection e with e1 e2
        obtain ⟨L', f1, f2⟩ := ih L e2
        exact ⟨p :: L', by rw [f1, e1] <;> rfl, f2.cons p⟩
    | swap x y l =>
      intro L e
      match L, e with
      | p :: q :: L, e =>
        injection e with e1 e2
        injection e2 with e2 e3
        exact ⟨q :: p :: L, by rw [e1, e2, e3] <;> rfl, .swap ..⟩
    | trans _ _ ih1 ih2 =>
      intro L e
      obtain ⟨L1, f1, f2⟩ := ih2 L e
      obtain ⟨L2', g1, g2⟩ := ih1 L1 f1
      exact ⟨L2', g1, g2.trans f2⟩
  exact key pm L rfl
theorem vals_refs' : ∀ L : List Rs, Vals (refs L) (L.map fun p => Value.ref p.1)
  | [] => .nil
  | _ :: L => .cons rfl (vals_refs' L)
/-- as sorted_col, where the order in which u gives its things isn't known -/
theorem cr_sortSet (hc : X.calm = true) (hu : X.A.units + 64 < cLine) : CallR X (.builtin "sorted") (rSortSet X.prog X.w) := by
  intro pins s σ H vs us Q I r h
  obtain ⟨a, L, rfl, ha, hr, q⟩ := h
  rw [Vals.ref1 r]
  obtain ⟨⟨es, ep, t⟩, ho, F⟩ : ∃ D, s.heap.get? a = some (sObj "set" D) ∧ Du0 X.prog X.w D (L.map kR) := (I.hok a _ ha).1
  have full : MyU.Du X.prog X.w s.heap (es, ep, t) (L.map kR) := ⟨F.ent, F.tab, F.nd, fun y hy => by
    obtain ⟨p, hp, rfl⟩ := List.mem_map.mp hy
    exact isM_of I (hr p hp), F.led, F.room, F.few⟩
  have few := F.few
  rw [List.length_map] at few
  have sz : es.size = L.length := by
    have := full.size
    rw [List.length_map] at this
    exact this
  -- the order in which the set is walked
  refine Calls.call_function_entry PyProof.Rows.kind_sorted PyProof.Rows.plain_sorted PyProof.Rows.entry_sorted (PyProof.Rows.args_sorted1 _) ?_
  unfold Builtin.«sorted»
  refine wpAny_bind (m := checkCount "sorted" 1 1 _) (wpAny_pure (wpAny_bind (collect_set (A := X.A.in1) (I.ok.hd hc) ⟨_, ho, rfl, rfl⟩ full.fit (by rw [sz]; unfold scanBound; omega) F.tab.ris F.led fun s1 acc k1 z1 g1 o1 p1 => ?_)))
  have ent : es.toList.map (·.2) = L.map fun p => Value.ref p.1 := by
    rw [show es.toList = (L.map kR).map (MyU.rowE X.prog X.w) from F.ent, List.map_map, List.map_map] <;> rfl
  rw [ent] at p1
  obtain ⟨L', e1, pm⟩ := rows_perm p1
  subst e1
  have rv : Vals ((L'.map itR).map (·.1)) (L'.map fun p => Value.ref p.1) := by
    rw [it_fst]
    exact vals_refs' L'
  obtain ⟨i1, i2, i3, i4⟩ := it_ok (K := X.K) (hr.perm pm)
  exact sort_rest hu I i1 i2 i3 i4 (by rw [List.length_map, pm.length_eq, sizeLine_eq]; omega) k1 z1 g1 o1 rv fun p hp => by
    rw [srt_it]
    exact q p _ ((srt_perm L').trans pm) ((srt_snd L').trans (asc_of_perm (pm.map _))) hp

/-! the dict -/
/-- the keys' tuples, by their places -/
theorem rows_of_kt {H : Hp} : ∀ {kvs : List (List L2.Key × V)} {xs : List (List L2.Key × Addr × Value)} {rs : List (List Str)}, KT H kvs xs → kvs.map (·.1) = rs.map (List.map Sum.inr) → ∃ ps : List Rs, (xs.map fun x => Value.ref x.2.1) = (ps.map fun p => Value.ref p.1) ∧ RowsAt H ps ∧ ps.map (·.2) = rs
  | _, _, [], r, e => by
    cases r with
    | nil => exact ⟨[], rfl, fun _ h => (nomatch h), rfl⟩
    | cons _ _ => cases e
  | _, _, r1 :: rs, r, e => by
    cases r with
    | nil => cases e
    | cons h t =>
      injection e with e1 e2
      obtain ⟨ps, p1, p2, p3⟩ := rows_of_kt t e2
      obtain ⟨h1, h2, _⟩ := h
      refine ⟨(_, r1) :: ps, by rw [List.map_cons, List.map_cons, p1], fun p hp => ?_, by rw [List.map_cons, p3]⟩
      rcases List.mem_cons.mp hp with rfl | hp
      · show H _ = some (.tup (r1.map V.str))
        rw [← kv_inr, ← e1]
        exact h2
      · exact p2 p hp
/-- sorted(d) of a dict with tuples of texts as keys -/
def rSortDict : List V → Hp → VK → Prop := fun vs H Q => ∃ (a : Addr) (kvs : List (List L2.Key × V)) (rs : List (List Str)), vs = [V.ref a] ∧ Rd H a (.dT kvs) ∧ kvs.map (·.1) = rs.map (List.map Sum.inr) ∧
  ∀ p qs, RowsAt H qs → qs.map (·.2) = asc rs → H p = none → Q (.ref p) (L2.upd H p (.lst (refs qs)))
theorem cr_sortDict (hc : X.calm = true) (hu : X.A.units + 64 < cLine) : CallR X (.builtin "sorted") rSortDict := by
  intro pins s σ H vs us Q I r h
  obtain ⟨a, kvs, rs, rfl, hd, hk, q⟩ := h
  rw [Vals.ref1 r]
  obtain ⟨z, hs, ks, pr, o, es, ep, ho, hx, hdt, he, hn⟩ := (show ObjOk X.prog X.w H s.heap a (.dT kvs) from hd.ok I.hok)
  have l1 : es.size = ks.length := size_of_entries he
  have l2 : kvs.length = ks.length := Paired.length pr
  obtain ⟨ps, p1, p2, p3⟩ := rows_of_kt pr hk
  refine Calls.call_function_entry PyProof.Rows.kind_sorted PyProof.Rows.plain_sorted PyProof.Rows.entry_sorted (PyProof.Rows.args_sorted1 _) ?_
  unfold Builtin.«sorted»
  refine wpAny_bind (m := checkCount "sorted" 1 1 _) (wpAny_pure (wpAny_bind (kdu_collect (A := X.A.in1) (kdl_raw hs hx hdt) (I.ok.hd hc) ho (by omega) fun h' tk acc kp it => ?_)))
  have ea : acc.toList = ps.map fun p => Value.ref p.1 := by
    rw [← p1]
    have hl : acc.toList.length = ks.length := by rw [Array.length_toList, it.1, l1]
    apply List.ext_getElem?
    intro j
    rw [List.getElem?_map]
    cases hj : acc.toList[j]? with
    | none =>
      have h1 := List.getElem?_eq_none_iff.mp hj
      rw [List.getElem?_eq_none (by omega)] <;> rfl
    | some v =>
      obtain ⟨en, hen, hv⟩ := it.2 j v (by rw [← Array.getElem?_toList]; exact hj)
      have qe := entry_at he j
      rw [hen] at qe
      cases hb : ks[j]? with
      | none =>
        rw [hb] at qe
        exact nomatch (show some en = none from qe)
      | some b =>
        rw [hb] at qe
        have e2 : en = entryOfKey (tupleKind (mixKind X.prog X.w)) b := Option.some.inj qe
        rw [hv, e2] <;> rfl
  have rv : Vals ((ps.map itR).map (·.1)) acc.toList := by
    rw [it_fst, ea]
    exact vals_refs' ps
  have zl : (ps.map itR).length ≤ sizeLine := by
    have := congrArg List.length p1
    rw [List.length_map, List.length_map] at this
    rw [List.length_map]
    omega
  obtain ⟨i1, i2, i3, i4⟩ := it_ok (K := X.K) p2
  exact sort_rest hu (I.kept (t' := tk) kp) i1 i2 i3 i4 zl (fun _ _ e => e) (Nat.le_refl _) rfl rfl rv fun p hp => by
    rw [srt_it]
    exact q p _ (p2.perm (srt_perm ps)) ((srt_snd ps).trans (congrArg asc p3)) hp
end
end MyR
end

section
set_option Elab.async false
set_option linter.all false
set_option maxRecDepth 100000
set_option maxHeartbeats 4000000
/-! dict(pairs) where the pairs are (tuple of texts, v) -/
namespace MyR
open PySem PySem.Spec PyProof.Rows L2 PySem.W PySem.Froz
theorem put_keysT {κ : Type} [DecidableEq κ] (acc : List (κ × V)) (k : κ) (v : V) : (putK acc k v).map (·.1) = if k ∈ acc.map (·.1) then acc.map (·.1) else acc.map (·.1) ++ [k] := by
  unfold putK
  by_cases h : k ∈ acc.map (·.1)
  · have h' : (acc.any fun kv => decide (kv.1 = k)) = true := by
      obtain ⟨kv, hk, e⟩ := List.mem_map.mp h
      exact List.any_eq_true.mpr ⟨kv, hk, by simpa using e⟩
    rw [if_pos h, if_pos h', List.map_map]
    refine List.map_congr_left fun kv _ => ?_
    show (if kv.1 = k then (kv.1, v) else kv).1 = kv.1
    split <;> rfl
  · have h' : ¬ (acc.any fun kv => decide (kv.1 = k)) = true := fun z => by
      obtain ⟨kv, hk, e⟩ := List.any_eq_true.mp z
      exact h (List.mem_map.mpr ⟨kv, hk, by simpa using e⟩)
    rw [if_neg h, if_neg h', List.map_append]
    rfl
theorem merge_keysT : ∀ (more acc : List (List L2.Key × V)), (acc.map (·.1)).Nodup → ((MyE2.mergeT acc more).map (·.1)).Nodup ∧ ∀ k, k ∈ (MyE2.mergeT acc more).map (·.1) ↔ k ∈ acc.map (·.1) ∨ k ∈ more.map (·.1)
  | [], acc, n => ⟨n, fun k => by simp [MyE2.mergeT]⟩
  | kv :: more, acc, n => by
    have e := put_keysT acc kv.1 kv.2
    have n' : ((putK acc kv.1 kv.2).map (·.1)).Nodup := by
      rw [e]
      split
      · exact n
      · rename_i h
        exact List.nodup_append.mpr ⟨n, by simp, fun a ha b hb z => h (by rw [List.mem_singleton] at hb; subst hb; subst z; exact ha)⟩
    obtain ⟨m1, m2⟩ := merge_keysT more (putK acc kv.1 kv.2) n'
    refine ⟨m1, fun k => (m2 k).trans ?_⟩
    rw [e, List.map_cons, List.mem_cons]
    split
    · rename_i h
      exact ⟨fun z => z.elim .inl fun y => .inr (.inr y), fun z => z.elim .inl fun y => y.elim (fun q => .inl (q ▸ h)) .inr⟩
    · rw [List.mem_append, List.mem_singleton, or_assoc]
/-- every list of such keys is a list of rows' keys -/
theorem keys_rows {rs : List (List Str)} : ∀ {ks : List (List L2.Key)}, (∀ k ∈ ks, k ∈ rs.map (List.map Sum.inr)) → ∃ ls : List (List Str), ks = ls.map (List.map Sum.inr) ∧ ∀ r ∈ ls, r ∈ rs
  | [], _ => ⟨[], rfl, fun _ h => nomatch h⟩
  | k :: ks, h => by
    obtain ⟨r, hr, e⟩ := List.mem_map.mp (h k List.mem_cons_self)
    obtain ⟨ls, e', h'⟩ := keys_rows (ks := ks) fun z hz => h z (List.mem_cons_of_mem _ hz)
    exact ⟨r :: ls, by rw [List.map_cons, e, e'], fun z hz => (List.mem_cons.mp hz).elim (fun e => e ▸ hr) (h' z)⟩
theorem inr_inj {r q : List Str} (h : r.map (Sum.inr : Str → L2.Key) = q.map Sum.inr) : r = q := (List.map_inj_right (fun x y => by exact Sum.inr.inj)).mp h
section
variable {X : Cx}
/-- dict(xs), xs a list of pairs of a tuple of texts and a value: its keys are the tuples, each once -/
def rDictR (K : PySem.W.Frag) : List V → Hp → VK → Prop := fun vs H Q => ∃ (a : Addr) (ps : List Addr) (rs : List Rs) (v : V), vs = [V.ref a] ∧ SqL K H a (ps.map V.ref) ∧ Paired (fun p (r : Rs) => SqT K H p [.ref r.1, v]) ps rs ∧ RowsAt H rs ∧
  ∀ (p : Addr) (kvs : List (List L2.Key × V)) (ks : List (List Str)), kvs.map (·.1) = ks.map (List.map Sum.inr) → ks.Nodup → (∀ r, r ∈ ks ↔ r ∈ rs.map (·.2)) → H p = none → Q (.ref p) (L2.upd H p (.dT kvs))
theorem ents_rows {K : PySem.W.Frag} {H : Hp} {v : V} : ∀ {ps : List Addr} {rs : List Rs}, Paired (fun p (r : Rs) => SqT K H p [.ref r.1, v]) ps rs → RowsAt H rs → Paired (fun p (e : MyE2.Ent) => SqT K H p [.ref e.2.1, e.2.2] ∧ H e.2.1 = some (.tup (e.1.map kV))) ps (rs.map fun r => (r.2.map Sum.inr, r.1, v))
  | _, _, .nil, _ => .nil
  | _, _, .cons (b := r) h t, hr => .cons ⟨h, by show H r.1 = some (.tup ((r.2.map Sum.inr).map kV)); rw [kv_inr]; exact hr _ List.mem_cons_self⟩ (ents_rows t fun p hp => hr p (List.mem_cons_of_mem _ hp))
theorem cr_dictR (hc : X.calm = true) (hu : X.A.units + 64 < cLine) : CallR X (.type "dict") (rDictR X.K) := by
  intro pins s σ H vs us Q I r h
  obtain ⟨a, ps, rs, v, rfl, hs, hp, hr, q⟩ := h
  refine MyE2.call_dictPT hc hu pins s σ H _ us Q I r ⟨a, ps, _, rfl, hs, ents_rows hp hr, fun p np => ?_⟩
  obtain ⟨m1, m2⟩ := merge_keysT ((rs.map fun r => ((r.2.map Sum.inr, r.1, v) : MyE2.Ent)).map fun e => (e.1, e.2.2)) [] (by simp)
  have keys : ((rs.map fun r => ((r.2.map Sum.inr, r.1, v) : MyE2.Ent)).map fun e => (e.1, e.2.2)).map (·.1) = (rs.map (·.2)).map (List.map Sum.inr) := by
    rw [List.map_map, List.map_map, List.map_map] <;> rfl
  rw [keys] at m2
  obtain ⟨ls, e1, e2⟩ := keys_rows (rs := rs.map (·.2)) fun k hk => ((m2 k).mp hk).elim (fun z => by simp at z) id
  refine q p _ ls e1 ?_ (fun r => ⟨e2 r, fun hr => ?_⟩) np
  · rw [e1] at m1
    exact L2.nodup_of_map m1
  · have z := (m2 (r.map Sum.inr)).mpr (.inr (List.mem_map.mpr ⟨r, hr, rfl⟩))
    rw [e1] at z
    obtain ⟨t, ht, e⟩ := List.mem_map.mp z
    exact inr_inj e ▸ ht
end
end MyR
end

section
set_option Elab.async false
set_option linter.all false
set_option maxRecDepth 100000
set_option maxHeartbeats 4000000
namespace My
local macro_rules | `(tactic| walk_at "go") => `(tactic| (repeat (first
  | (refine ⟨_, rfl, ?_⟩)
  | (refine ⟨_, _, rfl, rfl, ?_⟩)
  | (refine ⟨_, _, rfl, ?_⟩)
  | (refine ⟨rfl, ?_⟩)
  | (refine Or.inl ⟨_, rfl, ?_⟩)
  | (refine ⟨_, _, _, _, rfl, rfl, L2.SqL.of (by first | assumption | exact L2.upd_same), rfl, ?_⟩)
  | (refine ⟨_, _, _, _, rfl, rfl, (by first | assumption | exact L2.upd_same), rfl, ?_⟩)
  | (refine And.intro (by first | omega | decide | (unfold L2.CPow; decide) | (unfold L2.CMul; omega) | (unfold L2.CDiv; omega)) ?_))))
open PySem PySem.Spec PyProof.Rows L2 TL MyF MyS MyW RZ MyR
/-- all rows stay where all stays -/
theorem rows_same {H H' : Hp} {ps : List Rs} (h : RowsAt H ps) (s : Same H H') : RowsAt H' ps := fun p hp => s _ _ (h p hp)
theorem rows_but {q : Addr} {H H' : Hp} {ps : List Rs} {l : List V} (h : RowsAt H ps) (s : But q H H') (hq : H q = some (.lst l)) : RowsAt H' ps := fun p hp => s _ _ (h p hp) fun z => by
  have e := h p hp
  rw [z, hq] at e
  cases e
section
variable {P : Program} {w : World} {K : PySem.W.Frag} {mg : Str → Option Value} {base : Heap}
theorem pair_rows {H : Hp} {ts : List Addr} {xs : List V} (h : Tups H fPair ts xs) : ∀ ps : List Rs, xs = refs ps → Paired (fun p (r : Rs) => SqT K H p [.ref r.1, .bl true]) ts ps := by
  induction h with
  | nil =>
    intro ps e
    cases ps with
    | nil => exact .nil
    | cons y ys => cases e
  | @snoc ts xs t x r e ih =>
    intro ps e2
    obtain ⟨zs, z, rfl⟩ : ∃ zs z, ps = zs ++ [z] := by
      rcases List.eq_nil_or_concat ps with rfl | ⟨zs, z, rfl⟩
      · have := congrArg List.length e2
        rw [List.length_append, show refs [] = [] from rfl, List.length_nil, List.length_singleton] at this
        omega
      · exact ⟨zs, z, by rw [List.concat_eq_append]⟩
    rw [refs, List.map_append] at e2
    obtain ⟨e3, e4⟩ := List.append_inj' e2 rfl
    have e5 : x = V.ref z.1 := by injection e4
    exact paired_snoc (ih zs e3) (SqT.of (by rw [e, e5] <;> rfl))
/-! ### _law_rows -/
abbrev sRows : Stmt := top 51
/-- a new list of the rows rs, at p -/
def NewRows (H H' : Hp) (p : Addr) (rs : List (List Str)) : Prop := H p = none ∧ ∃ qs : List Rs, H' p = some (.lst (refs qs)) ∧ RowsAt H' qs ∧ qs.map (·.2) = rs
def spRows (K : PySem.W.Frag) : Sp := fun vs H Q _ => ∃ (a : Addr) (ps : List Rs), vs = [.ref a] ∧ SqL K H a (refs ps) ∧ RowsAt H ps ∧ ps.length ≤ 2000 ∧
  ∀ H' p, Same H H' → NewRows H H' p (uni (ps.map (·.2))) → Q (.ref p) H'
theorem sc_rows : FnScope ["_law_clauses", "_law_clause_here"] ["_law_clauses"] (defScope sRows) := ⟨rfl, rfl, rfl, by decide +kernel, rfl, by decide +kernel, by decide +kernel⟩
theorem ok_rows {f : Addr} {fd : FuncData} (G : Fun K "_law_rows" "_law_rows" sRows f fd) (B : Pts mg) : FnOk P w K mg base CX0 1 f fd ["_law_clauses"] (spRows K) := by
  have sc := sc_rows
  refine G.ok sc (fun vs H Q E h => ?_) (fun cdv A outer s H vs Q E hr h => ?_)
  · obtain ⟨_, _, rfl, _⟩ := h
    rfl
  · obtain ⟨a, ps, rfl, hS, hr', few, k⟩ := h
    have big : (100000 : Nat) < sizeLine := by decide
    have hu := hu_of hr
    refine ⟨_, pss_one (ps_ret (pe_callB (cr_sortDict rfl hr.units) (by rfl) B.sorted (by decide +kernel) (pa_cons (pe_callTy (cr_dictR rfl hr.units) (by rfl) B.dict boot_dict (pa_cons
      (pe_lc (own := [("_law_clause_here", 1)]) (g := gName 1) (tt := tYes) rfl sc.nd (pi_sq (pv 0))
        (blkOk_by (N := ["_law_clauses", "_law_clause_here"]) (sc := defScope sRows) (by decide +kernel)) (fun _ _ _ _ _ => pg_name (i := 1) sc.nd rfl (Or.inl rfl)) (fun _ _ _ _ _ => pts_nil)
        (fun _ _ _ _ _ => pe_tup (pa_cons (pv 1) (pa_cons pe_bl pa_nil)))) pa_nil)) pa_nil))), ?_⟩
    dsimp only [tSeq, tAsg, tRet, tCB, tCons, tNil, tCall, tNext]
    refine tups_seq fPair rfl (.inl hS) (by rw [refs, List.length_map]; omega) (fun x H2 Ψ Θ hx s2 yes => ?_) (fun H2 D ts s2 nD h2 tp => ?_)
    · obtain ⟨y, hy, rfl⟩ := List.mem_map.mp hx
      walk_at "go"
      exact ⟨(by show 2 ≤ sizeLine; decide), fun t nt => yes t _ (same_new nt) upd_same⟩
    · refine ⟨D, ts, ps, .bl true, rfl, SqL.of h2, pair_rows tp ps rfl, rows_same hr' s2, fun d kvs ks e nod mem nd => ?_⟩
      have s3 := same_trans s2 (same_new (o := .dT kvs) nd)
      refine ⟨d, kvs, ks, rfl, .inl upd_same, e, fun p qs hq e2 np => ?_⟩
      refine k _ p (same_trans s3 (same_new np)) ⟨same_free s3 np, qs, upd_same, hq.upd np, ?_⟩
      rw [e2]
      exact uni_of nod mem
end
end My
end

section
set_option Elab.async false
set_option linter.all false
set_option maxRecDepth 100000
set_option maxHeartbeats 4000000
namespace My
open PySem PySem.Spec PyProof.Rows L2
/-- a def by its name keeps its promise -/
def FN (P : Program) (w : World) (K : PySem.W.Frag) (mg : Str → Option Value) (base : Heap) (nm : Str) (k : Nat) (ps : List Str) (sp : Sp) : Prop :=
  ∃ f fd, mg nm = some (.ref f) ∧ PySem.W.keepIn K (.ref f) = true ∧ FnOk P w K mg base CX0 k f fd ps sp ∧ Binds K fd ps []
/-- a method of a class that keeps its promise -/
def MT (P : Program) (w : World) (K : PySem.W.Frag) (mg : Str → Option Value) (base : Heap) (C : Addr) (nm : Str) (k : Nat) (ps : List Str) (sp : Sp) : Prop :=
  ∃ f fd, Meth K C nm f ∧ FnOk P w K mg base CX0 k f fd ps sp ∧ Binds K fd ps []
end My
end

section
set_option Elab.async false
set_option linter.all false
set_option maxRecDepth 100000
set_option maxHeartbeats 4000000
namespace My
open PySem PySem.Spec PyProof.Rows L2
/-! ### the bits of literals -/
def codeS (ns : List Str) (y : Str) : Nat := 2 * ns.idxOf (bareS y) + (if negS y = true then 1 else 0)
def litB (ns : List Str) (y : Str) : Nat := 2 ^ codeS ns y
def maskS (ns ys : List Str) : Nat := ys.foldl (fun m y => m ||| litB ns y) 0
def evenS (n : Nat) : Nat := (List.range n).foldl (fun m i => m ||| 2 ^ (2 * i)) 0
theorem fold_bit {α : Type} (f : α → Nat) (ys : List α) (a j : Nat) : (ys.foldl (fun m y => m ||| 2 ^ f y) a).testBit j = (a.testBit j || ys.any fun y => decide (f y = j)) := by
  induction ys generalizing a with
  | nil => simp
  | cons y ys ih =>
    rw [List.foldl_cons, ih, Nat.testBit_or, Nat.testBit_two_pow, List.any_cons, Bool.or_assoc]
theorem mask_bit (ns ys : List Str) (j : Nat) : (maskS ns ys).testBit j = ys.any fun y => decide (codeS ns y = j) := by
  have e := fold_bit (codeS ns) ys 0 j
  rw [Nat.zero_testBit, Bool.false_or] at e
  exact e
theorem even_bit (n j : Nat) : (evenS n).testBit j = (decide (j % 2 = 0) && decide (j < 2 * n)) := by
  have e := fold_bit (fun i => 2 * i) (List.range n) 0 j
  rw [Nat.zero_testBit, Bool.false_or] at e
  refine e.trans ?_
  rw [Bool.eq_iff_iff, List.any_eq_true, Bool.and_eq_true, decide_eq_true_eq, decide_eq_true_eq]
  constructor
  · rintro ⟨i, hi, h⟩
    have := List.mem_range.mp hi
    have := of_decide_eq_true h
    omega
  · rintro ⟨h1, h2⟩
    exact ⟨j / 2, List.mem_range.mpr (by omega), decide_eq_true (by omega)⟩
theorem mask_snoc (ns ys : List Str) (y : Str) : maskS ns (ys ++ [y]) = maskS ns ys ||| litB ns y := by
  unfold maskS
  rw [List.foldl_append]
  rfl
theorem even_succ (n : Nat) : evenS (n + 1) = evenS n ||| 2 ^ (2 * n) := by
  unfold evenS
  rw [List.range_succ, List.foldl_append]
  rfl
theorem mask_sub {ns ys zs : List Str} (h : ∀ y ∈ ys, y ∈ zs) : maskS ns ys &&& maskS ns zs = maskS ns ys := by
  refine Nat.eq_of_testBit_eq fun j => ?_
  rw [Nat.testBit_and, mask_bit, mask_bit, Bool.eq_iff_iff, Bool.and_eq_true, List.any_eq_true, List.any_eq_true]
  exact ⟨fun k => k.1, fun k => ⟨k, let ⟨y, hy, e⟩ := k; ⟨y, h y hy, e⟩⟩⟩
/-- a literal of the names ns -/
def LitOf (ns : List Str) (y : Str) : Prop := litS y = true ∧ bareS y ∈ ns
theorem idx_inj {ns : List Str} {x y : Str} (hx : x ∈ ns) (e : ns.idxOf x = ns.idxOf y) : x = y := by
  have lx := List.idxOf_lt_length_iff.mpr hx
  have gx := List.getElem_idxOf lx
  have ly : ns.idxOf y < ns.length := e ▸ lx
  have gy := List.getElem_idxOf ly
  rw [← gx, ← gy]
  congr 1
theorem low_not_neg {x : Str} (h : lowZ x = true) : ¬ negS x = true := fun n => by
  rw [neg_eq] at n
  have e := of_decide_eq_true n
  unfold lowZ at h
  rw [Bool.and_eq_true, Bool.and_eq_true] at h
  have al := List.all_eq_true.mp h.2
  cases hc : x.cps.toList with
  | nil =>
    rw [hc] at e
    cases e
  | cons c r =>
    rw [hc] at e al
    have ec : [c] = [45] := e
    injection ec with ec
    have := of_decide_eq_true (al c List.mem_cons_self)
    rw [ec] at this
    exact absurd this (by decide +kernel)
theorem low_lit3 {x : Str} (h : lowZ x = true) : litS x = true ∧ bareS x = x ∧ ¬ negS x = true := by
  have n := low_not_neg h
  have e := bare_of_pos n
  exact ⟨by unfold litS; rw [e]; exact h, e, n⟩
theorem lit_bare {y : Str} (h : litS y = true) : lowZ (bareS y) = true := h
/-- the contrary: the other sign, the same name -/
theorem opp_code (ns : List Str) {y : Str} (h : litS y = true) : ∃ k s, s ≤ 1 ∧ k = ns.idxOf (bareS y) ∧ codeS ns y = 2 * k + s ∧ codeS ns (oppS y) = 2 * k + (1 - s) := by
  by_cases n : negS y = true
  · have e : oppS y = bareS y := if_pos n
    have l := low_lit3 (lit_bare h)
    refine ⟨_, 1, Nat.le_refl _, rfl, ?_, ?_⟩
    · unfold codeS
      rw [if_pos n]
    · unfold codeS
      rw [e, l.2.1, if_neg l.2.2]
  · have e : oppS y = dash ++ y := if_neg n
    obtain ⟨n2, b2⟩ := dash_back n
    refine ⟨_, 0, Nat.zero_le _, rfl, ?_, ?_⟩
    · unfold codeS
      rw [if_neg n]
    · unfold codeS
      rw [e, b2, if_pos n2, bare_of_pos n]
def contrS (n m : Nat) : Nat := ((m &&& evenS n) * 2) ||| ((m / 2) &&& evenS n)
theorem bit_dbl (m j : Nat) : (m * 2).testBit j = (decide (1 ≤ j) && m.testBit (j - 1)) := by
  have e := Nat.testBit_mul_two_pow m j 1
  simpa using e
theorem bit_half (m j : Nat) : (m / 2).testBit j = m.testBit (j + 1) := by
  rw [Nat.testBit_succ]
theorem contr_mask {ns ys : List Str} (h : ∀ y ∈ ys, LitOf ns y) : contrS ns.length (maskS ns ys) = maskS ns (ys.map oppS) := by
  refine Nat.eq_of_testBit_eq fun j => ?_
  unfold contrS
  rw [Nat.testBit_or, bit_dbl, Nat.testBit_and, Nat.testBit_and, bit_half, even_bit, even_bit, mask_bit, mask_bit, mask_bit, List.any_map]
  rw [Bool.eq_iff_iff]
  simp only [Bool.or_eq_true, Bool.and_eq_true, decide_eq_true_eq, List.any_eq_true, Function.comp]
  constructor
  · rintro (⟨h1, ⟨y, hy, e⟩, h2, h3⟩ | ⟨⟨y, hy, e⟩, h2, h3⟩)
    · obtain ⟨k, s, hs, _, c1, c2⟩ := opp_code ns (h y hy).1
      exact ⟨y, hy, by omega⟩
    · obtain ⟨k, s, hs, _, c1, c2⟩ := opp_code ns (h y hy).1
      exact ⟨y, hy, by omega⟩
  · rintro ⟨y, hy, e⟩
    obtain ⟨k, s, hs, hk, c1, c2⟩ := opp_code ns (h y hy).1
    have lk := List.idxOf_lt_length_iff.mpr (h y hy).2
    rw [← hk] at lk
    have hs2 : s = 0 ∨ s = 1 := by omega
    rcases hs2 with rfl | rfl
    · exact .inl ⟨by omega, ⟨y, hy, by omega⟩, by omega, by omega⟩
    · exact .inr ⟨⟨y, hy, by omega⟩, by omega, by omega⟩
/-- no literal of the name x stands among ys -/
theorem side_free {ns ys : List Str} {x : Str} (hx : x ∈ ns) (h : ∀ y ∈ ys, bareS y ∈ ns ∧ bareS y ≠ x) : (2 ^ (2 * ns.idxOf x) ||| 2 ^ (2 * ns.idxOf x + 1)) &&& maskS ns ys = 0 := by
  refine Nat.eq_of_testBit_eq fun j => ?_
  rw [Nat.zero_testBit, Nat.testBit_and, Nat.testBit_or, Nat.testBit_two_pow, Nat.testBit_two_pow, mask_bit, Bool.eq_false_iff]
  intro k
  simp only [Bool.or_eq_true, Bool.and_eq_true, decide_eq_true_eq, List.any_eq_true] at k
  obtain ⟨k1, y, hy, e⟩ := k
  obtain ⟨b1, b2⟩ := h y hy
  refine b2 (idx_inj b1 ?_)
  unfold codeS at e
  split at e <;> omega
/-- no two contrary ones -/
theorem no_clash {ns ys : List Str} (h : ∀ y ∈ ys, LitOf ns y) (nc : ∀ y ∈ ys, oppS y ∉ ys) : (maskS ns ys &&& (maskS ns ys / 2)) &&& evenS ns.length = 0 := by
  refine Nat.eq_of_testBit_eq fun j => ?_
  rw [Nat.zero_testBit, Nat.testBit_and, Nat.testBit_and, bit_half, even_bit, mask_bit, mask_bit, Bool.eq_false_iff]
  intro k
  simp only [Bool.and_eq_true, decide_eq_true_eq, List.any_eq_true] at k
  obtain ⟨⟨⟨y, hy, e⟩, z, hz, e2⟩, h1, h2⟩ := k
  obtain ⟨k1, s, hs, hk, c1, c2⟩ := opp_code ns (h y hy).1
  unfold codeS at e e2
  have ny : ¬ negS y = true := fun n => by
    rw [if_pos n] at e
    omega
  have nz : negS z = true := by
    by_cases n : negS z = true
    · exact n
    · rw [if_neg n] at e2
      omega
  rw [if_neg ny] at e
  rw [if_pos nz] at e2
  have eb : bareS y = bareS z := idx_inj (h y hy).2 (by omega)
  refine nc y hy ?_
  have eo : oppS y = dash ++ y := if_neg ny
  rw [eo, ← bare_of_pos ny, eb]
  have ed : dash ++ bareS z = z := by
    refine str_ext ?_
    rw [cps_cat, dash_cps, bare_eq, if_pos nz]
    rw [neg_eq] at nz
    have q := of_decide_eq_true nz
    rw [← q]
    exact List.take_append_drop 1 _
  rw [ed]
  exact hz
theorem litB_pos {ns : List Str} {x : Str} (h : lowZ x = true) : litB ns x = 2 ^ (2 * ns.idxOf x) := by
  have l := low_lit3 h
  unfold litB codeS
  rw [l.2.1, if_neg l.2.2, Nat.add_zero]
theorem litB_neg {ns : List Str} {x : Str} (h : lowZ x = true) : litB ns (oppS x) = 2 ^ (2 * ns.idxOf x + 1) := by
  have l := low_lit3 h
  have e : oppS x = dash ++ x := if_neg l.2.2
  obtain ⟨n2, b2⟩ := dash_back l.2.2
  unfold litB codeS
  rw [e, b2, if_pos n2]
theorem mask_lt {ns ys : List Str} (h : ∀ y ∈ ys, bareS y ∈ ns) : maskS ns ys < 2 ^ (2 * ns.length) := by
  refine Nat.lt_pow_two_of_testBit _ fun j hj => ?_
  rw [mask_bit, Bool.eq_false_iff]
  intro k
  obtain ⟨y, hy, e⟩ := List.any_eq_true.mp k
  have e := of_decide_eq_true e
  have := List.idxOf_lt_length_iff.mpr (h y hy)
  unfold codeS at e
  split at e <;> omega
theorem even_lt (n : Nat) : evenS n < 2 ^ (2 * n) := by
  refine Nat.lt_pow_two_of_testBit _ fun j hj => ?_
  rw [even_bit, Bool.eq_false_iff]
  intro k
  simp only [Bool.and_eq_true, decide_eq_true_eq] at k
  omega
theorem or_nat (a b : Nat) : Builtin.bitOr (a : Int) (b : Int) = ((a ||| b : Nat) : Int) := L2.bitOr_nn (Int.natCast_nonneg a) (Int.natCast_nonneg b)
theorem and_nat (a b : Nat) : Builtin.bitAnd (a : Int) (b : Int) = ((a &&& b : Nat) : Int) := by
  unfold Builtin.bitAnd
  rw [decide_eq_true (Int.natCast_nonneg a), decide_eq_true (Int.natCast_nonneg b)]
  rfl
end My
end

section
set_option Elab.async false
set_option linter.all false
set_option maxRecDepth 100000
set_option maxHeartbeats 4000000
namespace My
local macro_rules | `(tactic| walk_at "go") => `(tactic| (repeat (first
  | (refine ⟨_, rfl, ?_⟩)
  | (refine ⟨_, _, rfl, rfl, ?_⟩)
  | (refine ⟨_, _, rfl, ?_⟩)
  | (refine ⟨rfl, ?_⟩)
  | (refine Or.inl ⟨_, rfl, ?_⟩)
  | (refine ⟨_, _, _, _, rfl, rfl, L2.SqL.of (by first | assumption | exact L2.upd_same), rfl, ?_⟩)
  | (refine ⟨_, _, _, _, rfl, rfl, (by first | assumption | exact L2.upd_same), rfl, ?_⟩)
  | (refine And.intro (by first | omega | decide | (unfold L2.CPow; decide) | (unfold L2.CMul; omega) | (unfold L2.CDiv; omega)) ?_))))
open PySem PySem.Spec PyProof.Rows L2 TL MyF MyS MyW RZ MyR
/-! ### class Marks: its data -/
abbrev cMarks : Stmt := top 17
abbrev sMInit : Stmt := inClass cMarks 0
abbrev sMBits : Stmt := inClass cMarks 1
abbrev sMContr : Stmt := inClass cMarks 2
abbrev sMPart : Stmt := inClass cMarks 4
abbrev sMRow : Stmt := inClass cMarks 5
abbrev sMSides : Stmt := inClass cMarks 6
def fldsM (db ds dr : Addr) (ev : Int) : List (Str × V) := [("bits", .ref db), ("sides", .ref ds), ("breaking", .ref dr), ("evens", .int ev)]
theorem fm_bits (db ds dr : Addr) (ev : Int) : (fldsM db ds dr ev).lookup ("bits" : Str) = some (.ref db) := by
  unfold fldsM
  rw [lookup_put, if_pos rfl]
theorem fm_sides (db ds dr : Addr) (ev : Int) : (fldsM db ds dr ev).lookup ("sides" : Str) = some (.ref ds) := by
  unfold fldsM
  rw [lookup_put, if_neg (by decide +kernel), lookup_put, if_pos rfl]
theorem fm_breaking (db ds dr : Addr) (ev : Int) : (fldsM db ds dr ev).lookup ("breaking" : Str) = some (.ref dr) := by
  unfold fldsM
  rw [lookup_put, if_neg (by decide +kernel), lookup_put, if_neg (by decide +kernel), lookup_put, if_pos rfl]
theorem fm_evens (db ds dr : Addr) (ev : Int) : (fldsM db ds dr ev).lookup ("evens" : Str) = some (.int ev) := by
  unfold fldsM
  rw [lookup_put, if_neg (by decide +kernel), lookup_put, if_neg (by decide +kernel), lookup_put, if_neg (by decide +kernel), lookup_put, if_pos rfl]
theorem fm_none (db ds dr : Addr) (ev : Int) {m : Str} (h1 : ¬ m = "bits") (h2 : ¬ m = "sides") (h3 : ¬ m = "breaking") (h4 : ¬ m = "evens") : (fldsM db ds dr ev).lookup m = none := by
  unfold fldsM
  rw [lookup_put, if_neg h1, lookup_put, if_neg h2, lookup_put, if_neg h3, lookup_put, if_neg h4]
  rfl
theorem fm_put (db ds dr : Addr) (e z : Int) : putF "evens" (.int z) (fldsM db ds dr e) = fldsM db ds dr z := by
  unfold fldsM
  rw [putF, if_neg (by decide +kernel), putF, if_neg (by decide +kernel), putF, if_neg (by decide +kernel), putF, if_pos rfl]
theorem fm_made (db ds dr : Addr) (z : Int) : putF "evens" (.int z) (putF "breaking" (.ref dr) (putF "sides" (.ref ds) (putF "bits" (.ref db) []))) = fldsM db ds dr z := by
  unfold fldsM
  have e1 : putF "bits" (.ref db) [] = [(("bits" : Str), V.ref db)] := rfl
  rw [e1, putF, if_neg (by decide +kernel), putF, putF, if_neg (by decide +kernel), putF, if_neg (by decide +kernel), putF, putF, if_neg (by decide +kernel), putF, if_neg (by decide +kernel), putF, if_neg (by decide +kernel), putF]
theorem len_putK {κ : Type} [DecidableEq κ] (c : List (κ × V)) (k : κ) (x : V) : (putK c k x).length ≤ c.length + 1 := by
  unfold putK
  split <;> simp
/-- the tables of the first i names and the first j rows -/
structure MkDat (H : Hp) (ns : List Str) (rows : List (List Str)) (i j : Nat) (db ds dr : Addr) : Prop where
  kb : ∃ kb, H db = some (.dK kb) ∧ kb.length ≤ 2 * i ∧ ∀ y, valV kb (Sum.inr y) = if bareS y ∈ ns.take i then some (.int ((litB ns y : Nat) : Int)) else none
  ks : ∃ ks, H ds = some (.dK ks) ∧ ks.length ≤ i ∧ (∀ x ∈ ns.take i, ∃ t, valV ks (Sum.inr x) = some (.ref t) ∧ H t = some (.tup [.int ((2 ^ (2 * ns.idxOf x) : Nat) : Int), .int ((2 ^ (2 * ns.idxOf x + 1) : Nat) : Int)])) ∧ ∀ x, x ∉ ns.take i → valV ks (Sum.inr x) = none
  kr : ∃ kr : List (List Key × V), H dr = some (.dT kr) ∧ kr.length ≤ j ∧ ∀ r : List Str, valV kr (r.map Sum.inr) = if r ∈ rows.take j then some (.int ((maskS ns (r.map oppS) : Nat) : Int)) else none
theorem MkDat.same {H H' : Hp} {ns : List Str} {rows : List (List Str)} {i j : Nat} {db ds dr : Addr} (h : MkDat H ns rows i j db ds dr) (s : Same H H') : MkDat H' ns rows i j db ds dr := by
  obtain ⟨⟨kb, b1, b2⟩, ⟨ks, s1, s2, s3, s4⟩, ⟨kr, r1, r2⟩⟩ := h
  exact ⟨⟨kb, s _ _ b1, b2⟩, ⟨ks, s _ _ s1, s2, fun x hx => let ⟨t, e1, e2⟩ := s3 x hx; ⟨t, e1, s _ _ e2⟩, s4⟩, ⟨kr, s _ _ r1, r2⟩⟩
/-- a Marks object of the rows and the names -/
def MarksAt (M : Addr) (H : Hp) (m : Addr) (rows : List (List Str)) (ns : List Str) : Prop := ∃ dx db ds dr, H m = some (.ins M dx (fldsM db ds dr ((evenS ns.length : Nat) : Int))) ∧ MkDat H ns rows ns.length rows.length db ds dr
theorem MarksAt.same {M : Addr} {H H' : Hp} {m : Addr} {rows : List (List Str)} {ns : List Str} (h : MarksAt M H m rows ns) (s : Same H H') : MarksAt M H' m rows ns := by
  obtain ⟨dx, db, ds, dr, h1, h2⟩ := h
  exact ⟨dx, db, ds, dr, s _ _ h1, h2.same s⟩
theorem take_snoc {α : Type} {xs : List α} {i : Nat} {x : α} (h : xs[i]? = some x) : xs.take (i + 1) = xs.take i ++ [x] := by
  rw [List.take_add_one, h]
  rfl
theorem idx_at {ns : List Str} (nd : ns.Nodup) {i : Nat} {x : Str} (h : ns[i]? = some x) : ns.idxOf x = i := by
  have hi := (List.getElem?_eq_some_iff.mp h).1
  have e := (List.getElem?_eq_some_iff.mp h).2
  rw [← e]
  exact nd.idxOf_getElem i hi
/-- one more name -/
theorem MkDat.name {H H' : Hp} {ns : List Str} {rows : List (List Str)} {i j : Nat} {db ds dr t : Addr} {x : Str} {kb ks : List (Key × V)} (nd : ns.Nodup) (lo : ∀ x ∈ ns, lowZ x = true) (hx : ns[i]? = some x)
    (b2 : kb.length ≤ 2 * i) (b3 : ∀ y, valV kb (Sum.inr y) = if bareS y ∈ ns.take i then some (.int ((litB ns y : Nat) : Int)) else none)
    (s2 : ks.length ≤ i) (s3 : ∀ x ∈ ns.take i, ∃ t, valV ks (Sum.inr x) = some (.ref t) ∧ H' t = some (.tup [.int ((2 ^ (2 * ns.idxOf x) : Nat) : Int), .int ((2 ^ (2 * ns.idxOf x + 1) : Nat) : Int)])) (s4 : ∀ x, x ∉ ns.take i → valV ks (Sum.inr x) = none)
    (kr : ∃ kr : List (List Key × V), H' dr = some (.dT kr) ∧ kr.length ≤ j ∧ ∀ r : List Str, valV kr (r.map Sum.inr) = if r ∈ rows.take j then some (.int ((maskS ns (r.map oppS) : Nat) : Int)) else none)
    (h1 : H' db = some (.dK (putK (putK kb (Sum.inr x) (.int ((2 ^ (2 * i) : Nat) : Int))) (Sum.inr (oppS x)) (.int ((2 ^ (2 * i + 1) : Nat) : Int)))))
    (h2 : H' ds = some (.dK (putK ks (Sum.inr x) (.ref t)))) (h3 : H' t = some (.tup [.int ((2 ^ (2 * i) : Nat) : Int), .int ((2 ^ (2 * i + 1) : Nat) : Int)])) : MkDat H' ns rows (i + 1) j db ds dr := by
  have et := take_snoc hx
  have ei := idx_at nd hx
  have mx : x ∈ ns := List.mem_of_getElem? hx
  have lx := lo x mx
  have ll := low_lit3 lx
  have eo : oppS x = dash ++ x := if_neg ll.2.2
  obtain ⟨n2, bo⟩ := dash_back ll.2.2
  rw [← eo] at n2 bo
  refine ⟨⟨_, h1, ?_, fun y => ?_⟩, ⟨_, h2, ?_, fun z hz => ?_, fun z hz => ?_⟩, kr⟩
  · have q1 := len_putK (putK kb (Sum.inr x) (.int ((2 ^ (2 * i) : Nat) : Int))) (Sum.inr (oppS x)) (.int ((2 ^ (2 * i + 1) : Nat) : Int))
    have q2 := len_putK kb (Sum.inr x) (.int ((2 ^ (2 * i) : Nat) : Int))
    omega
  · rw [valV_put, valV_put, b3, et]
    by_cases e1 : y = oppS x
    · subst e1
      rw [if_pos rfl, if_pos (List.mem_append.mpr (.inr (List.mem_singleton.mpr bo))), litB_neg lx, ei]
    · rw [if_neg (fun z => e1 (Sum.inr.inj z))]
      by_cases e2 : y = x
      · subst e2
        rw [if_pos rfl, if_pos (List.mem_append.mpr (.inr (List.mem_singleton.mpr ll.2.1))), litB_pos lx, ei]
      · rw [if_neg (fun z => e2 (Sum.inr.inj z))]
        have ne : bareS y ≠ x := fun e => by
          by_cases n : negS y = true
          · refine e1 ?_
            rw [eo, ← e]
            refine str_ext ?_
            rw [cps_cat, dash_cps, bare_eq, if_pos n]
            rw [neg_eq] at n
            have q := of_decide_eq_true n
            rw [← q]
            exact (List.take_append_drop 1 _).symm
          · rw [bare_of_pos n] at e
            exact e2 e
        by_cases m : bareS y ∈ ns.take i
        · rw [if_pos m, if_pos (List.mem_append.mpr (.inl m))]
        · rw [if_neg m, if_neg fun z => (List.mem_append.mp z).elim m fun z => ne (List.mem_singleton.mp z)]
  · have q := len_putK ks (Sum.inr x) (.ref t)
    omega
  · rw [valV_put]
    rw [et] at hz
    by_cases e : z = x
    · subst e
      rw [if_pos rfl, ei]
      exact ⟨t, rfl, h3⟩
    · rw [if_neg (fun q => e (Sum.inr.inj q))]
      rcases List.mem_append.mp hz with hz | hz
      · exact s3 z hz
      · exact absurd (List.mem_singleton.mp hz) e
  · rw [valV_put]
    rw [et] at hz
    rw [if_neg (fun q => hz (List.mem_append.mpr (.inr (List.mem_singleton.mpr (Sum.inr.inj q)))))]
    exact s4 z fun q => hz (List.mem_append.mpr (.inl q))
theorem keys_inj {r z : List Str} (h : r.map (Sum.inr (α := Int)) = z.map Sum.inr) : r = z := (List.map_inj_right fun _ _ e => Sum.inr.inj e).mp h
/-- one more row -/
theorem kr_row {ns : List Str} {rows : List (List Str)} {j : Nat} {r : List Str} {kr : List (List Key × V)} (hr : rows[j]? = some r) (h2 : kr.length ≤ j) (h3 : ∀ r : List Str, valV kr (r.map Sum.inr) = if r ∈ rows.take j then some (.int ((maskS ns (r.map oppS) : Nat) : Int)) else none) :
    (putK kr (r.map Sum.inr) (.int ((maskS ns (r.map oppS) : Nat) : Int))).length ≤ j + 1 ∧
      ∀ z : List Str, valV (putK kr (r.map Sum.inr) (.int ((maskS ns (r.map oppS) : Nat) : Int))) (z.map Sum.inr) = if z ∈ rows.take (j + 1) then some (.int ((maskS ns (z.map oppS) : Nat) : Int)) else none := by
  refine ⟨Nat.le_trans (len_putK _ _ _) (by omega), fun z => ?_⟩
  rw [valV_put, h3, take_snoc hr]
  by_cases e : z = r
  · subst e
    rw [if_pos rfl, if_pos (List.mem_append.mpr (.inr (List.mem_singleton.mpr rfl)))]
  · rw [if_neg fun q => e (keys_inj q)]
    by_cases m : z ∈ rows.take j
    · rw [if_pos m, if_pos (List.mem_append.mpr (.inl m))]
    · rw [if_neg m, if_neg fun q => (List.mem_append.mp q).elim m fun q => e (List.mem_singleton.mp q)]
end My
end

section
set_option Elab.async false
set_option linter.all false
set_option maxRecDepth 100000
set_option maxHeartbeats 4000000
namespace My
local macro_rules | `(tactic| walk_at "go") => `(tactic| (repeat (first
  | (refine ⟨_, rfl, ?_⟩)
  | (refine ⟨_, _, rfl, rfl, ?_⟩)
  | (refine ⟨_, _, rfl, ?_⟩)
  | (refine ⟨rfl, ?_⟩)
  | (refine Or.inl ⟨_, rfl, ?_⟩)
  | (refine ⟨_, _, _, _, rfl, rfl, L2.SqL.of (by first | assumption | exact L2.upd_same), rfl, ?_⟩)
  | (refine ⟨_, _, _, _, rfl, rfl, (by first | assumption | exact L2.upd_same), rfl, ?_⟩)
  | (refine And.intro (by first | omega | decide | (unfold L2.CPow; decide) | (unfold L2.CMul; omega) | (unfold L2.CDiv; omega)) ?_))))
open PySem PySem.Spec PyProof.Rows L2 TL MyF MyS MyW RZ MyR
/-! ### trees -/
inductive Tr where
  | leaf (r : List Str)
  | node (n : Str) (a b : Tr)
/-- a tree as it lies in memory -/
def TrAt (H : Hp) : V → Tr → Prop
  | v, .leaf r => ∃ a, v = .ref a ∧ H a = some (.tup (r.map V.str)) ∧ r.all litS = true ∧ r.length < 30
  | v, .node n x y => ∃ a u z, v = .ref a ∧ H a = some (.tup [.str n, u, z]) ∧ lowZ n = true ∧ TrAt H u x ∧ TrAt H z y
theorem TrAt.same {H H' : Hp} (s : Same H H') : ∀ {t : Tr} {v : V}, TrAt H v t → TrAt H' v t
  | .leaf r, v, ⟨a, e, h, g⟩ => ⟨a, e, s _ _ h, g⟩
  | .node n x y, v, ⟨a, u, z, e, h, l, hx, hy⟩ => ⟨a, u, z, e, s _ _ h, l, TrAt.same s hx, TrAt.same s hy⟩
theorem TrAt.but {q : Addr} {H H' : Hp} {l : List V} (s : But q H H') (hq : H q = some (.lst l)) : ∀ {t : Tr} {v : V}, TrAt H v t → TrAt H' v t
  | .leaf r, v, ⟨a, e, h, g⟩ => ⟨a, e, s _ _ h (ne_of h hq (by intro z; cases z)), g⟩
  | .node n x y, v, ⟨a, u, z, e, h, l, hx, hy⟩ => ⟨a, u, z, e, s _ _ h (ne_of h hq (by intro z; cases z)), l, TrAt.but s hq hx, TrAt.but s hq hy⟩
theorem TrAt.tup {H : Hp} : ∀ {t : Tr} {v : V}, TrAt H v t → ∃ a xs, v = .ref a ∧ H a = some (.tup xs)
  | .leaf r, v, ⟨a, e, h, _⟩ => ⟨a, _, e, h⟩
  | .node n x y, v, ⟨a, u, z, e, h, _⟩ => ⟨a, _, e, h⟩
def Tr.isNode : Tr → Bool
  | .leaf _ => false
  | .node .. => true
theorem low_short {n : Str} (h : lowZ n = true) : n.length ≤ 8 := (low_parts h).2.1
theorem low_lit {n : Str} (h : lowZ n = true) : litS n = true := by
  unfold litS
  rw [bare_low h]
  exact h
section
variable {P : Program} {w : World} {K : PySem.W.Frag} {mg : Str → Option Value} {base : Heap}
/-! ### is_place -/
abbrev sPlace : Stmt := top 26
def spPlace : Sp := fun vs H Q _ => ∃ v t, vs = [v] ∧ TrAt H v t ∧ ∀ H', Same H H' → Q (.bl t.isNode) H'
theorem sc_place : FnScope ["value"] ["value"] (defScope sPlace) := ⟨rfl, rfl, rfl, by decide +kernel, rfl, by decide +kernel, by decide +kernel⟩
theorem ok_place {f fV : Addr} {fd fdV : FuncData} (G : Fun K "is_place" "is_place" sPlace f fd) (B : Pts mg) (mV : mg "is_variable" = some (.ref fV)) (kV' : PySem.W.keepIn K (.ref fV) = true) (OV : FnOk P w K mg base CX0 1 fV fdV ["value"] (spIsVar K)) (bV : Binds K fdV ["value"] []) :
    FnOk P w K mg base CX0 2 f fd ["value"] spPlace := by
  have sc := sc_place
  refine G.ok sc (fun vs H Q E h => ?_) (fun cdv A outer s H vs Q E hr h => ?_)
  · obtain ⟨_, _, rfl, _⟩ := h
    rfl
  · obtain ⟨v, t, rfl, ht, k⟩ := h
    refine ⟨_, pss_cons (ps_if (PW.pt (pw_or (pt_not (pt_val (pe_callB call_isi (by rfl) B.isinstance boot_isinstance (pa_cons (pv 0) (pa_cons (pe_bltn (v := .ty "tuple") (by rfl) B.tuple boot_tuple rfl) pa_nil)))))
        (pw_or (pt_cmpR op_ne (pe_callB call_len_seq (by rfl) B.len boot_len (pa_cons (pv 0) pa_nil)) pe_int (nomark _)) (pw_or1 (pt_not (pt_val (pe_call OV hr rfl mV kV' bV .nil pass0 (pa_cons (pe_ix ix_tup (pv 0) pe_int (fun _ _ => rfl)) pa_nil)))))))) (pss_one (ps_ret pe_bl)) pss_nil)
      (pss_one (ps_ret (pe_and (pe_callB call_isi (by rfl) B.isinstance boot_isinstance (pa_cons (pe_ix ix_tup (pv 0) pe_int (fun _ _ => rfl)) (pa_cons (pe_bltn (v := .ty "tuple") (by rfl) B.tuple boot_tuple rfl) pa_nil)))
        (pe_one (pe_callB call_isi (by rfl) B.isinstance boot_isinstance (pa_cons (pe_ix ix_tup (pv 0) pe_int (fun _ _ => rfl)) (pa_cons (pe_bltn (v := .ty "tuple") (by rfl) B.tuple boot_tuple rfl) pa_nil))))))), ?_⟩
    cases t with
    | leaf r =>
      obtain ⟨a, rfl, h, lr, few⟩ := ht
      refine ⟨_, rfl, ?_⟩
      refine ⟨.ref a, .ty "tuple", _, _, true, rfl, .ty "tuple", tup_ty (SqT.of h), kit_ty (by decide +kernel), ?_⟩
      refine ⟨_, rfl, ?_⟩
      refine iteF ?_
      refine ⟨_, rfl, a, _, rfl, .inr (SqT.of h), ?_⟩
      refine ⟨rfl, ?_⟩
      refine ⟨_, rfl, ?_⟩
      by_cases h3 : r.length = 3
      · have e : (!decide (V.int (((r.map V.str).length : Nat) : Int) = V.int 3)) = false := by
          rw [List.length_map, h3]
          rfl
        obtain ⟨r0, r1, r2, rfl⟩ : ∃ r0 r1 r2, r = [r0, r1, r2] := by
          match r, h3 with
          | [r0, r1, r2], _ => exact ⟨r0, r1, r2, rfl⟩
        rw [e]
        refine iteF ?_
        refine ⟨_, rfl, a, _, 0, .str r0, rfl, rfl, SqT.of h, rfl, ?_⟩
        refine ⟨_, rfl, .inl ⟨r0, rfl, lit_line0 lr r0 (by simp)⟩, fun H1 s1 => ?_⟩
        refine ⟨_, rfl, ?_⟩
        by_cases hv : varV (.str r0) = true
        · rw [hv]
          refine iteF ?_
          refine ⟨_, rfl, a, _, 1, .str r1, rfl, rfl, SqT.of (s1 _ _ h), rfl, ?_⟩
          refine ⟨.str r1, .ty "tuple", _, _, false, rfl, .ty "tuple", .base (.str r1), kit_ty (by decide +kernel), ?_⟩
          refine ⟨_, rfl, iteF ?_⟩
          exact k H1 s1
        · rw [Bool.eq_false_iff.mpr hv]
          refine iteT ?_
          exact k H1 s1
      · have e : (!decide (V.int (((r.map V.str).length : Nat) : Int) = V.int 3)) = true := by
          rw [List.length_map, decide_eq_false fun z => h3 (by injection z with z; omega)]
          rfl
        rw [e]
        refine iteT ?_
        exact k H (same_refl H)
    | node n x y =>
      obtain ⟨a, u, z, rfl, h, ln, hx, hy⟩ := ht
      obtain ⟨b, xs, rfl, hb⟩ := hx.tup
      obtain ⟨c, ys, rfl, hc⟩ := hy.tup
      refine ⟨_, rfl, ?_⟩
      refine ⟨.ref a, .ty "tuple", _, _, true, rfl, .ty "tuple", tup_ty (SqT.of h), kit_ty (by decide +kernel), ?_⟩
      refine ⟨_, rfl, ?_⟩
      refine iteF ?_
      refine ⟨_, rfl, a, _, rfl, .inr (SqT.of h), ?_⟩
      refine ⟨rfl, ?_⟩
      refine ⟨_, rfl, ?_⟩
      refine iteF ?_
      refine ⟨_, rfl, a, _, 0, .str n, rfl, rfl, SqT.of h, rfl, ?_⟩
      refine ⟨_, rfl, .inl ⟨n, rfl, Nat.le_trans (low_short ln) (by decide)⟩, fun H1 s1 => ?_⟩
      refine ⟨_, rfl, ?_⟩
      rw [show varV (.str n) = true from ln]
      refine iteF ?_
      refine ⟨_, rfl, a, _, 1, .ref b, rfl, rfl, SqT.of (s1 _ _ h), rfl, ?_⟩
      refine ⟨.ref b, .ty "tuple", _, _, true, rfl, .ty "tuple", tup_ty (SqT.of (s1 _ _ hb)), kit_ty (by decide +kernel), ?_⟩
      refine ⟨_, rfl, ?_⟩
      refine ⟨_, rfl, a, _, 2, .ref c, rfl, rfl, SqT.of (s1 _ _ h), rfl, ?_⟩
      refine ⟨.ref c, .ty "tuple", _, _, true, rfl, .ty "tuple", tup_ty (SqT.of (s1 _ _ hc)), kit_ty (by decide +kernel), ?_⟩
      exact k H1 s1
end
end My
end

section
set_option Elab.async false
set_option linter.all false
set_option maxRecDepth 100000
set_option maxHeartbeats 4000000
/-! rows as data: equality -/
namespace MyR
open PySem PySem.Spec PyProof.Rows L2 PySem.W
/-- texts of plain signs -/
def OkR (r : List Str) : Prop := ∀ y ∈ r, PyData.strOk y = true
theorem lay_strs : ∀ {r : List Str}, OkR r → PyData.canLayAll0 (r.map .str) = true
  | [], _ => by simp [PyData.canLayAll0]
  | x :: r, h => by
    show PyData.canLayAll0 (.str x :: r.map .str) = true
    rw [PyData.canLayAll0, lay_strs fun y hy => h y (List.mem_cons_of_mem _ hy), PyData.canLay0, h x List.mem_cons_self]
    rfl
theorem eqv_strs : ∀ r q : List Str, PyData.eqvAll (r.map .str) (q.map .str) = decide (r = q)
  | [], [] => by simp [PyData.eqvAll]
  | [], _ :: _ => by simp [PyData.eqvAll]
  | _ :: _, [] => by simp [PyData.eqvAll]
  | x :: r, y :: q => by
    show PyData.eqvAll (.str x :: r.map .str) (.str y :: q.map .str) = _
    rw [PyData.eqvAll, eqv_strs r q, PyData.eqv]
    by_cases h : x = y
    · subst h
      simp
    · simp [h]
theorem lay_rows : ∀ {rs : List (List Str)}, (∀ r ∈ rs, OkR r) → PyData.canLayAll0 (rs.map encR) = true
  | [], _ => by simp [PyData.canLayAll0]
  | x :: r, h => by
    show PyData.canLayAll0 (encR x :: r.map encR) = true
    rw [PyData.canLayAll0, lay_rows fun y hy => h y (List.mem_cons_of_mem _ hy), encR, PyData.canLay0, lay_strs (h x List.mem_cons_self)]
    rfl
theorem depth_rows : ∀ rs : List (List Str), PyData.depthAll (rs.map encR) ≤ 1
  | [] => by simp [PyData.depthAll]
  | x :: r => by
    have := depth_rows r
    show PyData.depthAll (encR x :: r.map encR) ≤ 1
    rw [PyData.depthAll, encR, PyData.depth, depth_strs]
    omega
theorem eqv_rows : ∀ rs qs : List (List Str), PyData.eqvAll (rs.map encR) (qs.map encR) = decide (rs = qs)
  | [], [] => by simp [PyData.eqvAll]
  | [], _ :: _ => by simp [PyData.eqvAll]
  | _ :: _, [] => by simp [PyData.eqvAll]
  | x :: r, y :: q => by
    show PyData.eqvAll (encR x :: r.map encR) (encR y :: q.map encR) = _
    rw [PyData.eqvAll, eqv_rows r q, encR, encR, PyData.eqv, eqv_strs]
    by_cases h : x = y
    · subst h
      simp
    · simp [h]
theorem shaped_row {r : List Str} (h : OkR r) : SeqAt.shaped (encR r) = true := by
  unfold SeqAt.shaped
  rw [encR, PyData.canLay0, lay_strs h, PyData.depth, depth_strs] <;> rfl
theorem shaped_lst {rs : List (List Str)} (h : ∀ r ∈ rs, OkR r) : SeqAt.shaped (.list (rs.map encR)) = true := by
  unfold SeqAt.shaped
  rw [PyData.canLay0, lay_rows h, PyData.depth, Bool.true_and, decide_eq_true_eq]
  have := depth_rows rs
  omega
theorem shaped_tup {rs : List (List Str)} (h : ∀ r ∈ rs, OkR r) : SeqAt.shaped (.tuple (rs.map encR)) = true := by
  unfold SeqAt.shaped
  rw [PyData.canLay0, lay_rows h, PyData.depth, Bool.true_and, decide_eq_true_eq]
  have := depth_rows rs
  omega
theorem dp_rows {K : PySem.W.Frag} {H : Hp} : ∀ {ps : List Rs}, RowsAt H ps → DpAll K H (refs ps) ((ps.map (·.2)).map encR)
  | [], _ => .nil
  | p :: ps, h => .cons (.tup (SqT.of (h p List.mem_cons_self)) (dp_strs _)) (dp_rows fun q hq => h q (List.mem_cons_of_mem _ hq))
theorem dp_row {K : PySem.W.Frag} {H : Hp} {a : Addr} {r : List Str} (h : SqT K H a (r.map V.str)) : Dp K H (.ref a) (encR r) := .tup h (dp_strs _)
end MyR
end

section
set_option Elab.async false
set_option linter.all false
set_option maxRecDepth 100000
set_option maxHeartbeats 4000000
/-! comprehensions whose things are new objects: what is so of each stays so -/
namespace MyR
open PySem PySem.Spec PyProof.Rows L2 MyF
/-- what is so of a result whatever becomes of a list D -/
def Stays (R : V → V → Hp → Prop) : Prop := ∀ x y (H H' : Hp) (D : Addr) (l : List V), R x y H → H D = some (.lst l) → (∀ b o, H b = some o → b ≠ D → H' b = some o) → R x y H'
theorem prd_imp {α β : Type} {F G : α → β → Prop} : ∀ {as : List α} {bs : List β}, (∀ a b, F a b → G a b) → Paired F as bs → Paired G as bs
  | _, _, _, .nil => .nil
  | _, _, h, .cons r t => .cons (h _ _ r) (prd_imp h t)
theorem prd_snoc {α β : Type} {F : α → β → Prop} : ∀ {as : List α} {bs : List β} {a : α} {b : β}, Paired F as bs → F a b → Paired F (as ++ [a]) (bs ++ [b])
  | _, _, _, _, .nil, h => .cons h .nil
  | _, _, _, _, .cons r t, h => .cons r (prd_snoc t h)
theorem rel_it {J : It} {xs : List V} {G : Hp → Prop} (w : Walk J xs.length G (YAt xs)) {g : TG} {tt : TT} {te : TE} {vs : List Nat} {σ : L2.St} {H1 : Hp} {D : Addr} {Qd : Hp → Prop} (keep : V → Bool) (R : V → V → Hp → Prop) (st : Stays R) (nD : H1 D = none) (few : xs.length < sizeLine)
    (hG : ∀ H, Same H1 H → G H)
    (turn : ∀ x H2 (Ψ : V → Hp → Prop) (Θ : Hp → Prop), x ∈ xs → Same H1 H2 → (keep x = true → ∀ y H5, Same H2 H5 → R x y H5 → Ψ y H5) → (keep x = false → ∀ H5, Same H2 H5 → Θ H5) →
      g x (wipe σ vs) H2 fun σ2 H2 => wipe σ2 vs = wipe σ vs ∧ tt σ2 H2 fun b H3 => if b = true then te σ2 H3 Ψ else Θ H3)
    (done : ∀ H2 ys, Same H1 H2 → H2 D = some (.lst ys) → Paired (fun y x => R x y H2) ys (xs.filter keep) → Qd H2) :
    ∃ W : Nat → Nat → Hp → Prop, (∃ m, W 0 m (upd H1 D (.lst []))) ∧ ∀ i m H, W i m H →
      (J.stop i H ∧ Qd H) ∨ (J.go i H ∧ ∃ Nx : Hp → Prop, (∀ H', Nx H' → ∃ m', m' < m ∧ W (i + 1) m' H') ∧ ∀ x H', J.yld i H x H' → g x (wipe σ vs) H' fun σ2 H2 => wipe σ2 vs = wipe σ vs ∧ tt σ2 H2 fun b H3 =>
        if b = true then te σ2 H3 fun y H4 => ∃ acc, H4 D = some (.lst acc) ∧ acc.length < sizeLine ∧ Nx (upd H4 D (.lst (acc ++ [y]))) else Nx H3) := by
  refine lc_it w (fun i H => Same H1 H ∧ i ≤ xs.length ∧ ∃ ys, H D = some (.lst ys) ∧ Paired (fun y x => R x y H) ys ((xs.take i).filter keep)) ⟨same_new nD, Nat.zero_le _, [], upd_same, .nil⟩ (fun i H _ h => hG H h.1) ?_
    (fun H h => by
      obtain ⟨s, _, ys, hd, tp⟩ := h
      rw [List.take_length] at tp
      exact done H ys s hd tp)
  rintro i x H H' hi ⟨s, hi2, ys, hd, tp⟩ ⟨rfl, hx⟩
  have tk : xs.take (i + 1) = xs.take i ++ [x] := by rw [List.take_add_one, hx] <;> rfl
  refine turn x H' _ _ (List.mem_of_getElem? hx) s (fun kx y H5 s5 hR => ?_) fun kx H5 s5 => ?_
  · have hd5 := s5 D _ hd
    have far : ∀ b o, H5 b = some o → b ≠ D → upd H5 D (.lst (ys ++ [y])) b = some o := fun b o e ne => by rw [upd_ne ne]; exact e
    refine ⟨_, hd5, ?_, fun b o e => far b o (s5 b o (s b o e)) (ne_of_none e nD), hi, ys ++ [y], upd_same, ?_⟩
    · have := tp.length
      have := List.length_filter_le keep (xs.take i)
      rw [List.length_take] at this
      omega
    · rw [tk, List.filter_append, show [x].filter keep = [x] by simp [kx]]
      exact prd_snoc (prd_imp (fun a b q => st _ _ _ _ D _ q hd fun c o e ne => far c o (s5 c o e) ne) tp) (st _ _ _ _ D _ hR hd5 far)
  · refine ⟨same_trans s s5, hi, ys, s5 D _ hd, ?_⟩
    rw [tk, List.filter_append, show [x].filter keep = [] by simp [kx], List.append_nil]
    exact prd_imp (fun a b q => st _ _ _ _ D _ q hd fun c o e _ => s5 c o e) tp
/-- over the list or tuple in slot i -/
theorem rel_seq {K : PySem.W.Frag} {a : Addr} {xs : List V} {i : Nat} {g : TG} {tt : TT} {te : TE} {vs : List Nat} {σ : L2.St} {H : Hp} {Q : V → Hp → Prop} (keep : V → Bool) (R : V → V → Hp → Prop) (st : Stays R) (hσ : σ[i]? = some (some (.ref a))) (hS : Sq K H a xs) (few : xs.length < sizeLine)
    (turn : ∀ x H2 (Ψ : V → Hp → Prop) (Θ : Hp → Prop), x ∈ xs → Same H H2 → (keep x = true → ∀ y H5, Same H2 H5 → R x y H5 → Ψ y H5) → (keep x = false → ∀ H5, Same H2 H5 → Θ H5) →
      g x (wipe σ vs) H2 fun σ2 H2 => wipe σ2 vs = wipe σ vs ∧ tt σ2 H2 fun b H3 => if b = true then te σ2 H3 Ψ else Θ H3)
    (done : ∀ H2 D ys, Same H H2 → H D = none → H2 D = some (.lst ys) → Paired (fun y x => R x y H2) ys (xs.filter keep) → Q (.ref D) H2) : tLc (iSq K i) g tt te vs σ H Q := by
  rcases hS with hS | hS
  · exact .inl ⟨_, hσ, a, rfl, ⟨xs, hS⟩, fun D nD => rel_it (Qd := fun H2 => Q (.ref D) H2) walk_list keep R st nD few (fun H2 s2 => sqL_same hS s2) turn fun H2 ts s2 h2 tp => done H2 D ts s2 nD h2 tp⟩
  · exact .inr ⟨_, hσ, a, rfl, ⟨xs, hS⟩, fun D nD => rel_it (Qd := fun H2 => Q (.ref D) H2) walk_tup keep R st nD few (fun H2 s2 => sqT_same hS s2) turn fun H2 ts s2 h2 tp => done H2 D ts s2 nD h2 tp⟩
/-- over a list that was just told, at a -/
theorem rel_lst {K : PySem.W.Frag} {a : Addr} {xs : List V} {g : TG} {tt : TT} {te : TE} {vs : List Nat} {σ : L2.St} {H : Hp} {Q : V → Hp → Prop} (keep : V → Bool) (R : V → V → Hp → Prop) (st : Stays R) (hS : SqL K H a xs) (few : xs.length < sizeLine)
    (turn : ∀ x H2 (Ψ : V → Hp → Prop) (Θ : Hp → Prop), x ∈ xs → Same H H2 → (keep x = true → ∀ y H5, Same H2 H5 → R x y H5 → Ψ y H5) → (keep x = false → ∀ H5, Same H2 H5 → Θ H5) →
      g x (wipe σ vs) H2 fun σ2 H2 => wipe σ2 vs = wipe σ vs ∧ tt σ2 H2 fun b H3 => if b = true then te σ2 H3 Ψ else Θ H3)
    (done : ∀ H2 D ys, Same H H2 → H D = none → H2 D = some (.lst ys) → Paired (fun y x => R x y H2) ys (xs.filter keep) → Q (.ref D) H2) (D : Addr) (nD : H D = none) :
    ∃ W : Nat → Nat → Hp → Prop, (∃ m, W 0 m (upd H D (.lst []))) ∧ ∀ i m H, W i m H →
      ((Itl K a).stop i H ∧ Q (.ref D) H) ∨ ((Itl K a).go i H ∧ ∃ Nx : Hp → Prop, (∀ H', Nx H' → ∃ m', m' < m ∧ W (i + 1) m' H') ∧ ∀ x H', (Itl K a).yld i H x H' → g x (wipe σ vs) H' fun σ2 H2 => wipe σ2 vs = wipe σ vs ∧ tt σ2 H2 fun b H3 =>
        if b = true then te σ2 H3 fun y H4 => ∃ acc, H4 D = some (.lst acc) ∧ acc.length < sizeLine ∧ Nx (upd H4 D (.lst (acc ++ [y]))) else Nx H3) :=
  rel_it (Qd := fun H2 => Q (.ref D) H2) walk_list keep R st nD few (fun H2 s2 => sqL_same hS s2) turn fun H2 ts s2 h2 tp => done H2 D ts s2 nD h2 tp
/-- a tuple of the texts f x -/
def TupOf (K : PySem.W.Frag) (f : V → List Str → Prop) : V → V → Hp → Prop := fun x y H => ∃ t r, y = .ref t ∧ SqT K H t (r.map V.str) ∧ f x r
theorem tupOf_stays {K : PySem.W.Frag} {f : V → List Str → Prop} : Stays (TupOf K f) := fun x y H H' D l ⟨t, r, e, h, hf⟩ hD far => by
  refine ⟨t, r, e, ?_, hf⟩
  rcases h with (h | ⟨o, h⟩) | h
  · exact .inl (.inl (far _ _ h (ne_of h hD (by intro z; cases z))))
  · exact .inl (.inr ⟨o, far _ _ h (ne_of h hD (by intro z; cases z))⟩)
  · exact .inr h
/-- from a row at x to a row at y -/
def RowR (F : List Str → List Str → Prop) : V → V → Hp → Prop := fun x y H => ∃ a w t r, x = .ref a ∧ y = .ref t ∧ H a = some (.tup (w.map V.str)) ∧ H t = some (.tup (r.map V.str)) ∧ F w r
theorem rowR_stays {F : List Str → List Str → Prop} : Stays (RowR F) := fun x y H H' D l ⟨a, w, t, r, e1, e2, h1, h2, hf⟩ hD far =>
  ⟨a, w, t, r, e1, e2, far _ _ h1 (ne_of h1 hD (by intro z; cases z)), far _ _ h2 (ne_of h2 hD (by intro z; cases z)), hf⟩
theorem strs_eq : ∀ {a b : List Str}, a.map V.str = b.map V.str → a = b
  | [], [], _ => rfl
  | [], _ :: _, h => by cases h
  | _ :: _, [], h => by cases h
  | x :: a, y :: b, h => by
    rw [List.map_cons, List.map_cons] at h
    injection h with h1 h2
    injection h1 with h1
    rw [h1, strs_eq h2]
theorem rows_rel {F : List Str → List Str → Prop} {H : Hp} : ∀ {ps : List Rs} {ys : List V}, Paired (fun y x => RowR F x y H) ys (refs ps) → RowsAt H ps → ∃ qs : List Rs, ys = refs qs ∧ RowsAt H qs ∧ Paired F (ps.map (·.2)) (qs.map (·.2))
  | [], ys, h, _ => by
    cases h
    exact ⟨[], rfl, fun _ h => (nomatch h), .nil⟩
  | p :: ps, ys, h, hr => by
    cases h with
    | cons h1 t =>
      obtain ⟨qs, e, hq, pr⟩ := rows_rel t fun x hx => hr x (List.mem_cons_of_mem _ hx)
      obtain ⟨a, w, b, r, e1, rfl, h2, h3, hf⟩ := h1
      injection e1 with e1
      subst e1
      have e4 := (hr p List.mem_cons_self).symm.trans h2
      injection e4 with e4
      injection e4 with e4
      have e5 := strs_eq e4
      subst e5
      refine ⟨(b, r) :: qs, by rw [e] <;> rfl, fun x hx => ?_, .cons hf pr⟩
      rcases List.mem_cons.mp hx with rfl | hx
      · exact h3
      · exact hq x hx
theorem rows_samep {H H' : Hp} {ps : List Rs} (h : RowsAt H ps) (s : Same H H') : RowsAt H' ps := fun p hp => s _ _ (h p hp)
theorem row_lst {K : PySem.W.Frag} {a : Addr} {ps : List Rs} {g : TG} {te : TE} {vs : List Nat} {σ : L2.St} {H : Hp} {Q : V → Hp → Prop} (F : List Str → List Str → Prop) (hS : SqL K H a (refs ps)) (hr : RowsAt H ps) (few : ps.length < sizeLine)
    (turn : ∀ p H2 (Ψ : V → Hp → Prop), p ∈ ps → Same H H2 → (∀ t r H5, Same H2 H5 → H5 t = some (.tup (r.map V.str)) → F p.2 r → Ψ (.ref t) H5) → g (.ref p.1) (wipe σ vs) H2 fun σ2 H2 => wipe σ2 vs = wipe σ vs ∧ te σ2 H2 Ψ)
    (gm : ∀ x σ H Q Q', (∀ σ H, Q σ H → Q' σ H) → g x σ H Q → g x σ H Q')
    (done : ∀ H2 D qs, Same H H2 → H D = none → H2 D = some (.lst (refs qs)) → RowsAt H2 qs → Paired F (ps.map (·.2)) (qs.map (·.2)) → Q (.ref D) H2) (D : Addr) (nD : H D = none) :
    ∃ W : Nat → Nat → Hp → Prop, (∃ m, W 0 m (upd H D (.lst []))) ∧ ∀ i m H, W i m H →
      ((Itl K a).stop i H ∧ Q (.ref D) H) ∨ ((Itl K a).go i H ∧ ∃ Nx : Hp → Prop, (∀ H', Nx H' → ∃ m', m' < m ∧ W (i + 1) m' H') ∧ ∀ x H', (Itl K a).yld i H x H' → g x (wipe σ vs) H' fun σ2 H2 => wipe σ2 vs = wipe σ vs ∧ tYes σ2 H2 fun b H3 =>
        if b = true then te σ2 H3 fun y H4 => ∃ acc, H4 D = some (.lst acc) ∧ acc.length < sizeLine ∧ Nx (upd H4 D (.lst (acc ++ [y]))) else Nx H3) := by
  refine rel_lst (Q := Q) (fun _ => true) (RowR F) rowR_stays hS (by rw [refs, List.length_map]; exact few) (fun x H2 Ψ Θ hx s2 yes no => ?_) (fun H2 D ys s2 nD h2 pr => ?_) D nD
  · obtain ⟨p, hp, rfl⟩ := List.mem_map.mp hx
    refine gm _ _ _ _ _ (fun σ3 H3 q => ⟨q.1, q.2⟩) (turn p H2 Ψ hp s2 fun t r H5 s5 ht hf => yes rfl _ H5 s5 ⟨p.1, p.2, t, r, rfl, rfl, s5 _ _ (s2 _ _ (hr p hp)), ht, hf⟩)
  · rw [show (refs ps).filter (fun _ => true) = refs ps by simp] at pr
    obtain ⟨qs, rfl, hq, pf⟩ := rows_rel pr (rows_samep hr s2)
    exact done H2 D qs s2 nD h2 hq pf
theorem row_seq {K : PySem.W.Frag} {a : Addr} {ps : List Rs} {i : Nat} {g : TG} {te : TE} {vs : List Nat} {σ : L2.St} {H : Hp} {Q : V → Hp → Prop} (F : List Str → List Str → Prop) (hσ : σ[i]? = some (some (.ref a))) (hS : Sq K H a (refs ps)) (hr : RowsAt H ps) (few : ps.length < sizeLine)
    (turn : ∀ p H2 (Ψ : V → Hp → Prop), p ∈ ps → Same H H2 → (∀ t r H5, Same H2 H5 → H5 t = some (.tup (r.map V.str)) → F p.2 r → Ψ (.ref t) H5) → g (.ref p.1) (wipe σ vs) H2 fun σ2 H2 => wipe σ2 vs = wipe σ vs ∧ te σ2 H2 Ψ)
    (gm : ∀ x σ H Q Q', (∀ σ H, Q σ H → Q' σ H) → g x σ H Q → g x σ H Q')
    (done : ∀ H2 D qs, Same H H2 → H D = none → H2 D = some (.lst (refs qs)) → RowsAt H2 qs → Paired F (ps.map (·.2)) (qs.map (·.2)) → Q (.ref D) H2) : tLc (iSq K i) g tYes te vs σ H Q := by
  refine rel_seq (Q := Q) (fun _ => true) (RowR F) rowR_stays hσ hS (by rw [refs, List.length_map]; exact few) (fun x H2 Ψ Θ hx s2 yes no => ?_) (fun H2 D ys s2 nD h2 pr => ?_)
  · obtain ⟨p, hp, rfl⟩ := List.mem_map.mp hx
    refine gm _ _ _ _ _ (fun σ3 H3 q => ⟨q.1, q.2⟩) (turn p H2 Ψ hp s2 fun t r H5 s5 ht hf => yes rfl _ H5 s5 ⟨p.1, p.2, t, r, rfl, rfl, s5 _ _ (s2 _ _ (hr p hp)), ht, hf⟩)
  · rw [show (refs ps).filter (fun _ => true) = refs ps by simp] at pr
    obtain ⟨qs, rfl, hq, pf⟩ := rows_rel pr (rows_samep hr s2)
    exact done H2 D qs s2 nD h2 hq pf
theorem prd_map {α β : Type} {f : α → β} : ∀ {as : List α} {bs : List β}, Paired (fun a b => b = f a) as bs → bs = as.map f
  | _, _, .nil => rfl
  | _, _, .cons h t => by rw [h, prd_map t] <;> rfl
end MyR
end

section
set_option Elab.async false
set_option linter.all false
set_option maxRecDepth 100000
set_option maxHeartbeats 4000000
/-! sorted(t) of a tuple of texts -/
namespace MyR
open PySem PySem.Spec PyProof.Rows L2 PySem.W
def leS : Str → Str → Bool := dataLe false fun z => .str z
theorem leS_tot : TotalLe leS := sortLe_total (listOrd itemOrd) false fun z => keyToks (.str z)
theorem sortedS_of : ∀ {l : List Str}, (l.Pairwise fun a b => leS a b = true) → sortedS l = true
  | [], _ => rfl
  | [x], _ => rfl
  | x :: y :: r, h => by
    obtain ⟨h1, h2⟩ := List.pairwise_cons.mp h
    have e := h1 y List.mem_cons_self
    have e2 : leS x y = decide (x.cps.toList ≤ y.cps.toList) := congrFun (congrFun (dataLe_str (fun z : Str => z)) x) y
    rw [e2, decide_eq_true_eq] at e
    have q := sortedS_of h2
    show (!ltCps y.cps.toList x.cps.toList && risingS y r) = true
    rw [ltCps_eq, decide_eq_false (fun z => e z), show risingS y r = true from q]
    rfl
section
variable {X : Cx}
def rSortTS (K : PySem.W.Frag) : List V → Hp → VK → Prop := fun vs H Q => ∃ (a : Addr) (zs : List Str), vs = [V.ref a] ∧ SqT K H a (zs.map V.str) ∧
  ∀ (ys : List Str) p, ys.Perm zs → sortedS ys = true → H p = none → Q (.ref p) (upd H p (.lst (ys.map V.str)))
theorem cr_sortTS (hu : X.A.units + 64 < cLine) : CallR X (.builtin "sorted") (rSortTS X.K) := by
  intro pins s σ H vs us Q I r h
  obtain ⟨a, zs, rfl, hs, q⟩ := h
  rw [Vals.ref1 r]
  obtain ⟨its, rv, hl, hz⟩ := I.tuple hs
  rw [List.length_map] at hz
  have rv' : Vals ((zs.map fun z => ((V.str z, PyData.str z) : V × PyData)).map (·.1)) its := by
    rw [List.map_map]
    exact rv
  refine Calls.call_function_entry PyProof.Rows.kind_sorted PyProof.Rows.plain_sorted PyProof.Rows.entry_sorted (PyProof.Rows.args_sorted1 _) ?_
  unfold Builtin.«sorted»
  have hiz : its.length ≤ sizeLine := by
    have := rv.length
    rw [List.length_map] at this
    omega
  refine wpAny_bind (m := checkCount "sorted" 1 1 _) (wpAny_pure (wpAny_bind (MyZ.collect_tup hl ?_ hiz)))
  have k1 : ∀ b o, s.heap.get? b = some o → ((s.heap.push (seqObj "list" #[] 0)).update s.heap.objs.size (Obj.mapSeq (· ++ its.toArray))).get? b = some o := fun b o e => by
    rw [Heap.get?_update_ne _ _ _ _ (Nat.ne_of_lt (Heap.lt_size e))]
    exact Heap.get?_push_of_some _ e
  have I2 := I.kept (t' := s.toks) k1
  refine sort_rest (bs := zs.map fun z => (V.str z, PyData.str z)) hu I2 (fun b hb => ?_) ?_ ?_ (fun b hb => ?_) (by rw [List.length_map]; exact hz) (fun _ _ e => e) (Nat.le_refl _) rfl rfl rv' fun p np => ?_
  · obtain ⟨z, _, rfl⟩ := List.mem_map.mp hb
    exact .str z
  · intro d hd d' hd'
    obtain ⟨b, hb, rfl⟩ := List.mem_map.mp hd
    obtain ⟨b', hb', rfl⟩ := List.mem_map.mp hd'
    obtain ⟨z, _, rfl⟩ := List.mem_map.mp hb
    obtain ⟨z', _, rfl⟩ := List.mem_map.mp hb'
    simp [alike]
  · refine .inl (.inr fun d hd => ?_)
    obtain ⟨b, hb, rfl⟩ := List.mem_map.mp hd
    obtain ⟨z, _, rfl⟩ := List.mem_map.mp hb
    exact ⟨(fun z => nomatch z), (fun _ z => nomatch z)⟩
  · obtain ⟨z, _, rfl⟩ := List.mem_map.mp hb
    simp [PyData.depth]
  · have e : ((zs.map fun z => ((V.str z, PyData.str z) : V × PyData)).mergeSort (dataLe false (·.2))).map (·.1) = (zs.mergeSort leS).map V.str := by
      have e1 : (zs.mergeSort leS).map (fun z => ((V.str z, PyData.str z) : V × PyData)) = (zs.map fun z => ((V.str z, PyData.str z) : V × PyData)).mergeSort (dataLe false (·.2)) := sort_maps _ fun _ _ _ _ => rfl
      rw [← e1, List.map_map]
      rfl
    rw [e]
    exact q _ p (List.mergeSort_perm _ _) (sortedS_of (sort_pairwise leS_tot zs)) np
end
end MyR
end

section
set_option Elab.async false
set_option linter.all false
set_option maxRecDepth 100000
set_option maxHeartbeats 4000000
/-! {e for a in xs for b in ys}, e a text -/
namespace MyS
open PySem PySem.Spec PyProof.Rows PySem.Froz L2 PpSet
/-- the set's comprehension of two fors, no tests -/
abbrev sc2 (elt t0 i0 t1 i1 : Expr) (scope : Scope) (pos : Pos) : Expr := .SetComp elt [⟨t0, i0, [], 0⟩, ⟨t1, i1, [], 0⟩] scope pos
section
variable {prog : Program} {w : World} {A : Around} {R : Result → Shared → Prop} {s : Shared} {elt t0 i0 t1 i1 : Expr} {scope : Scope} {pos : Pos} {it acc : Value} {env : Env}
theorem turn0 : compTurn (sc2 elt t0 i0 t1 i1 scope pos) 0 it acc env = (do
      standAt i0.pos
      match ← pyNext it with
      | none => pure (.done .next)
      | some v =>
        letOwnedTupleGo t0 it v
        assign t0 env v
        let mut ok := true
        for c in ([] : List Expr) do
          if ok then ok ← isTrue c env (eval c env)
        if ok then
          let x ← eval i1 env
          standAt i1.pos
          let x ← foldedSetIterable i1 env x
          let _ ← runOwn (.compStart (sc2 elt t0 i0 t1 i1 scope pos) 1 (← holding [x] (pyIter x)) acc env) env
        again (.compLoop (sc2 elt t0 i0 t1 i1 scope pos) 0 it acc env)) := by rfl
theorem turn1 : compTurn (sc2 elt t0 i0 t1 i1 scope pos) 1 it acc env = (do
      standAt i1.pos
      match ← pyNext it with
      | none => pure (.done .next)
      | some v =>
        letOwnedTupleGo t1 it v
        assign t1 env v
        let mut ok := true
        for c in ([] : List Expr) do
          if ok then ok ← isTrue c env (eval c env)
        if ok then
          (do let v ← eval elt env; standAt elt.pos; let _ ← call (.builtin "set.add") [acc, v])
        again (.compLoop (sc2 elt t0 i0 t1 i1 scope pos) 1 it acc env)) := by rfl
abbrev nt (prog : Program) (w : World) (A : Around) (env : Env) (R : Result → Shared → Prop) : Value → Shared → Prop := notedBy (model prog w) A env fun e s' => R (.error e) s'
/-- the walk of the first for: what each turn has to do -/
theorem loop0 (fold : ∀ x, foldedSetIterable i1 env x = pure x) (I : Nat → Shared → Prop)
    (turn : ∀ n s, I n s → wpAny (model prog w) A (pyNext it) (fun r s1 => match r with
      | none => R (.ok .next) s1
      | some v => wpAny (model prog w) A (letOwnedTupleGo t0 it v) (fun _ s2 => wpAny (model prog w) A (assign t0 env v) (fun _ s3 => wpAny (model prog w) A (eval i1 env) (fun x s4 => wpAny (model prog w) A (pyIter x) (fun it1 s5 =>
          codeAny (model prog w) A (.compStart (sc2 elt t0 i0 t1 i1 scope pos) 1 it1 acc env) (fun r s' => (∃ f, r = .ok f) ∧ ∃ m, m < n ∧ I m s') s5) (nt prog w A env R) s4) (nt prog w A env R) s3) (nt prog w A env R) s2) (nt prog w A env R) s1) (nt prog w A env R) s)
    (n : Nat) (h : I n s) : codeAny (model prog w) A (.compLoop (sc2 elt t0 i0 t1 i1 scope pos) 0 it acc env) R s := by
  refine codeAny_loop rfl I (fun n s hI => ?_) n h
  refine wpAny_noted (M := model prog w) (A := A) (m := compTurn (sc2 elt t0 i0 t1 i1 scope pos) 0 it acc env) ?_
  rw [turn0]
  refine wpAny_bind (wpAny_standAt (wpAny_bind (wpAny_mono (turn n s hI) (fun r s1 h1 => ?_) fun _ _ z => z)))
  cases r with
  | none => exact wpAny_pure h1
  | some v =>
    refine wpAny_bind (wpAny_mono h1 (fun _ s2 h2 => wpAny_bind (wpAny_mono h2 (fun _ s3 h3 => ?_) fun _ _ z => z)) fun _ _ z => z)
    refine wpAny_bind (wpAny_pure ?_)
    refine wpAny_bind (wpAny_mono h3 (fun x s4 h4 => wpAny_bind (wpAny_standAt (wpAny_bind (wpAny_of_eq (fold x) (wpAny_bind (wpAny_holding (wpAny_mono h4 (fun it1 s5 h5 => ?_) fun _ _ z => z))))))) fun _ _ z => z)
    refine wpAny_bind (wpAny_runOwn ?_)
    rw [Around.mark_none]
    refine codeAny_mono h5 fun r s' hr => ?_
    obtain ⟨⟨f, rfl⟩, hr⟩ := hr
    first
      | exact wpAny_pure ⟨rfl, hr⟩
      | exact wpAny_bind (wpAny_pure (wpAny_pure ⟨rfl, hr⟩))
theorem loop1 (I : Nat → Shared → Prop)
    (turn : ∀ n s, I n s → wpAny (model prog w) A (pyNext it) (fun r s1 => match r with
      | none => R (.ok .next) s1
      | some v => wpAny (model prog w) A (letOwnedTupleGo t1 it v) (fun _ s2 => wpAny (model prog w) A (assign t1 env v) (fun _ s3 => wpAny (model prog w) A (eval elt env) (fun x s4 =>
          wpAny (model prog w) A (call (.builtin "set.add") [acc, x]) (fun _ s5 => ∃ m, m < n ∧ I m s5) (nt prog w A env R) s4) (nt prog w A env R) s3) (nt prog w A env R) s2) (nt prog w A env R) s1) (nt prog w A env R) s)
    (n : Nat) (h : I n s) : codeAny (model prog w) A (.compLoop (sc2 elt t0 i0 t1 i1 scope pos) 1 it acc env) R s := by
  refine codeAny_loop rfl I (fun n s hI => ?_) n h
  refine wpAny_noted (M := model prog w) (A := A) (m := compTurn (sc2 elt t0 i0 t1 i1 scope pos) 1 it acc env) ?_
  rw [turn1]
  refine wpAny_bind (wpAny_standAt (wpAny_bind (wpAny_mono (turn n s hI) (fun r s1 h1 => ?_) fun _ _ z => z)))
  cases r with
  | none => exact wpAny_pure h1
  | some v =>
    refine wpAny_bind (wpAny_mono h1 (fun _ s2 h2 => wpAny_bind (wpAny_mono h2 (fun _ s3 h3 => ?_) fun _ _ z => z)) fun _ _ z => z)
    refine wpAny_bind (wpAny_pure ?_)
    exact wpAny_bind (wpAny_bind (wpAny_mono h3 (fun x s4 h4 => wpAny_bind (wpAny_standAt (wpAny_bind (wpAny_mono h4 (fun _ s5 h5 => wpAny_pure (wpAny_pure ⟨rfl, h5⟩)) fun _ _ z => z)))) fun _ _ z => z))
theorem start1 (h0 : codeAny (model prog w) A (.compLoop (sc2 elt t0 i0 t1 i1 scope pos) 1 it acc env) R s)
    (h : wpAny (model prog w) A (pyIter it) (fun it' s' => codeAny (model prog w) A (.compLoop (sc2 elt t0 i0 t1 i1 scope pos) 1 it' acc env) R s') (nt prog w A env R) s) :
    codeAny (model prog w) A (.compStart (sc2 elt t0 i0 t1 i1 scope pos) 1 it acc env) R s := by
  refine codeAny_of_tree (wpAny_notedAt ?_)
  unfold compStart
  refine wpAny_bind (m := ask) (wpAny_askSetting (wpAny_ite ?_))
  split
  · first
      | exact wpAny_bind (wpAny_pure (wpAny_pure ⟨rfl, h0⟩))
      | exact wpAny_pure ⟨rfl, h0⟩
  · first
      | exact wpAny_bind (wpAny_rule (wpAny_bind (wpAny_standAt (wpAny_bind (wpAny_mono h (fun it' s' h' => wpAny_pure ⟨rfl, h'⟩) fun _ _ x => x)))))
      | exact wpAny_bind (wpAny_rule (wpAny_bind (m := standAt i1.pos) (wpAny_standAt (wpAny_bind (wpAny_mono h (fun it' s' h' => wpAny_pure ⟨rfl, h'⟩) fun _ _ x => x)))))
end
section
variable {X : Cx}
/-- a text comes to a set of texts -/
theorem add_call {pins : List (Addr × Obj)} {σ : L2.St} {H : Hp} {s : Shared} {E : Value → Shared → Prop} {D : Addr} {L : List Str} {z : Str} {u : Tok} {Q : Value → Shared → Prop} (I : L2.Inv X pins σ H s) (hD : H D = some (SetTx X.prog X.w D L)) (room : L.length + 1 < scanBound)
    (h : ∀ s' L', L2.Inv X pins σ (upd H D (SetTx X.prog X.w D L')) s' → (∀ y, y ∈ L' ↔ y ∈ L ∨ y = z) → L'.Nodup → L'.length ≤ L.length + 1 → Q .none s') : wpAny (model X.prog X.w) X.A (call (.builtin "set.add") [.ref D, .str z u]) Q E s := by
  obtain ⟨S, ho, F⟩ := settx_at I hD
  refine wpAny_call_entry PySem.F.slot_set_add ⟨_, ho, rfl⟩ PySem.F.entry_set_add ?_ (PySem.F.args_set_add_2 _ _)
  unfold Builtin.«set.add» Builtin.Frozenset.oneOther
  simp only [List.isEmpty_nil, bind_assoc]
  unfold Builtin.Frozenset.addrOf setAdd
  refine wpAny_bind (wpAny_pure (wpAny_bind (wpAny_pure (wpAny_bind (wpAny_holding (wpAny_bind ((strKind X.prog X.w).pyHash (k := z) (is_str z u) ?_))))))) 
  refine add_any (s := { s with toks := s.toks + 1 }) ho F room fun b h2 D2 L2 sb ho2 F2 hm2 hl2 => ?_
  exact wpAny_pure ⟨_, rfl, h _ L2 (I.write (e := D) (t' := s.toks + 1) (by rw [hD]; trivial) (.inl rfl) (fun c o hc e => (sb.2 c hc).trans e) ⟨_, ho2⟩ (settx_ok ⟨_, ho2, F2⟩)) hm2 F2.nd hl2⟩
def tSc2 (P : Program) (w : World) (wi : TI) (g : TG) (wi1 : TI) (g1 : TG) (te : TE) (vs vs1 : List Nat) : TE := fun σ H Q => wi σ H fun J H1 => ∀ D, H1 D = none → ∃ W : Nat → Nat → Hp → Prop, (∃ m, W 0 m (upd H1 D (SetTx P w D []))) ∧ ∀ i m H, W i m H →
  (J.stop i H ∧ Q (.ref D) H) ∨ (J.go i H ∧ ∃ Nx : Hp → Prop, (∀ H', Nx H' → ∃ m', m' < m ∧ W (i + 1) m' H') ∧ ∀ x H', J.yld i H x H' → g x (wipe σ vs) H' fun σ2 H2 => wipe σ2 vs = wipe σ vs ∧ wi1 σ2 H2 fun J1 H4 =>
    ∃ W1 : Nat → Nat → Hp → Prop, (∃ m, W1 0 m H4) ∧ ∀ j k H, W1 j k H → (J1.stop j H ∧ Nx H) ∨ (J1.go j H ∧ ∃ Nx1 : Hp → Prop, (∀ H', Nx1 H' → ∃ k', k' < k ∧ W1 (j + 1) k' H') ∧ ∀ x H', J1.yld j H x H' → g1 x (wipe σ2 vs1) H' fun σ3 H5 => wipe σ3 vs1 = wipe σ2 vs1 ∧ te σ3 H5 fun y H7 =>
      ∃ (z : Str) (L : List Str), y = .str z ∧ H7 D = some (SetTx P w D L) ∧ L.length + 1 < scanBound ∧ ∀ L', (∀ u, u ∈ L' ↔ u ∈ L ∨ u = z) → L'.Nodup → L'.length ≤ L.length + 1 → Nx1 (upd H7 D (SetTx P w D L'))))
theorem pe_sc2 {elt tg iter tg1 iter1 : Expr} {scope : Scope} {own : List (Str × Nat)} {vs1 : List Nat} {pos : Pos} {wi wi1 : TI} {g g1 : TG} {te : TE} (hc : X.calm = true) (hN : X.N.Nodup) (hi : PI X tg iter wi) (ok : BlkOk X.N X.env.scope scope own) (hv : ∀ i ∈ vs1, i ∈ own.map (·.2))
    (hg : ∀ (s : Shared) (H : Hp) (C : Addr) (cl : List (Str × Addr)) (fp : List Addr), PG (X.blk s H scope (compEnvC scope cl C X.env) fp) tg g)
    (hi1 : ∀ (s : Shared) (H : Hp) (C : Addr) (cl : List (Str × Addr)) (fp : List Addr), PI (X.blk s H scope (compEnvC scope cl C X.env) fp) tg1 iter1 wi1)
    (hg1 : ∀ (s : Shared) (H : Hp) (C : Addr) (cl : List (Str × Addr)) (fp : List Addr), PG (X.blk s H scope (compEnvC scope cl C X.env) fp) tg1 g1)
    (he : ∀ (s : Shared) (H : Hp) (C : Addr) (cl : List (Str × Addr)) (fp : List Addr), PE (X.blk s H scope (compEnvC scope cl C X.env) fp) elt te) (fold : ∀ x, foldedSetIterable iter X.env x = pure x := by intro _; rfl) (fold1 : ∀ env x, foldedSetIterable iter1 env x = pure x := by intro _ _; rfl) :
    PE X (sc2 elt tg iter tg1 iter1 scope pos) (tSc2 X.prog X.w wi g wi1 g1 te (own.map (·.2)) vs1) := by
  refine ⟨fun pins s σ H Q I h => ?_⟩
  rw [eval_SetComp]
  have cells : ∀ y ∈ scope.names, y.2 = .free → ∃ c, X.env.cells.lookup y.1 = some c := fun y hy e => (ok.free y hy e).elim (fun k => I.ok.has _ (.inl k)) fun k => I.ok.has _ (.inr k)
  refine wpAny_comprehension_free (use := none) rfl fold (closure_ok cells) ok.kind (fun y hy e => by rw [ok.uniq y hy, e]) (thn (hi.run pins s σ H _ I h) fun xv s1 hx => thn hx fun itv s2 h2 => ?_)
  obtain ⟨it, fp, tn, J, H2, rfl, I2, T, st2, f2, q⟩ := h2
  refine newSet_ok (newEnv_comp ?_)
  generalize hD : s2.heap.objs.size = D
  have hDn : H2 D = none := I2.hok.fresh (Nat.le_of_eq hD)
  obtain ⟨W, ⟨m0, w0⟩, turn⟩ := q D hDn
  generalize hs3 : ({ s2 with heap := s2.heap.push { cls := .type "set", dict := none, data := .set #[] 0 (.fresh 0 0 (!X.w.params.followText "set-order")) } } : Shared) = s3
  have h3 : s3.heap = s2.heap.push (sObj "set" (#[], 0, .fresh 0 0 (!X.w.params.followText "set-order"))) := by rw [← hs3] <;> rfl
  have I3 : L2.Inv X pins σ (upd H2 D (SetTx X.prog X.w D [])) s3 := by
    rw [← hs3]
    refine I2.laid (t' := s2.toks) (fun b o e => Heap.get?_push_of_some _ e) (Nat.le_of_eq hD) (settx_ok ⟨(#[], 0, .fresh 0 0 (!X.w.params.followText "set-order")), ?_, dk_fresh⟩)
    rw [← hD]
    exact Heap.get?_push_size _ rfl
  have f3 : ∀ b ∈ fp, FpOk X pins (upd H2 D (SetTx X.prog X.w D [])) b ∧ b < s3.heap.objs.size := fun b hb => by
    obtain ⟨o, e, _⟩ := T.obj _ _ st2 b hb
    have lt := Heap.lt_size e
    refine ⟨⟨?_, (f2 b hb).2⟩, by rw [h3, Heap.size_push]; exact Nat.lt_succ_of_lt lt⟩
    rw [upd_ne (by rw [← hD]; exact Nat.ne_of_lt lt)]
    exact (f2 b hb).1
  have st3 : tn 0 s3.heap := T.keep _ _ _ st2 fun b _ o e => by rw [h3]; exact Heap.get?_push_of_some _ e
  have I4 := block_start I3 ok hN f3
  generalize hcl : cellsFrom (s3.heap.objs.size + 1) scope.names (cloFrom X.env.cells scope.names []) = cl at I4 ⊢
  have pg := hg s3 (upd H2 D (SetTx X.prog X.w D [])) s3.heap.objs.size cl fp
  have pe := he s3 (upd H2 D (SetTx X.prog X.w D [])) s3.heap.objs.size cl fp
  have pi1 := hi1 s3 (upd H2 D (SetTx X.prog X.w D [])) s3.heap.objs.size cl fp
  have pg1 := hg1 s3 (upd H2 D (SetTx X.prog X.w D [])) s3.heap.objs.size cl fp
  show codeAny _ _ (.compStart (sc2 elt tg iter tg1 iter1 scope pos) 0 (.ref it) (.ref D) (compEnvC scope cl s3.heap.objs.size X.env)) _ { s3 with heap := pushCells (s3.heap.push { cls := .type "dict", data := .dict #[] }) scope.names }
  have nfp : ∀ b ∈ fp, (upd H2 D (SetTx X.prog X.w D [])) b = none := fun b hb => (f3 b hb).1.1
  generalize hce : compEnvC scope cl s3.heap.objs.size X.env = ce at I4 pg pe pi1 pg1 ⊢
  have cL : ce.locals = s3.heap.objs.size := by subst hce; rfl
  generalize hH3 : upd H2 D (SetTx X.prog X.w D []) = H3 at I3 I4 pg pe pi1 pg1 w0 nfp f3
  generalize hs4 : ({ s3 with heap := pushCells (s3.heap.push { cls := .type "dict", data := .dict #[] }) scope.names } : Shared) = s4 at I4 ⊢
  have st4 : tn 0 s4.heap := T.keep _ _ _ st3 fun b _ o e => by rw [← hs4]; exact pushCells_keeps _ _ _ _ (Heap.get?_push_of_some _ e)
  have stat : ∀ {σ' : L2.St} {H' : Hp} {s' : Shared}, L2.Inv (X.blk s3 H3 scope ce fp) [] σ' H' s' → (∀ b ∈ fp, H' b = none) → ∀ b ∈ fp, FpOk (X.blk s3 H3 scope ce fp) [] H' b := fun {σ' H' s'} I' hn b hb =>
    ⟨hn b hb, (I'.ok.exf b hb).1, I'.ok.exfs b hb, .inl hb, fun x c e => (I'.ok.exf b hb).2 x c e, fun p hp => absurd (show p ∈ ([] : List (Addr × Obj)) ++ [] from hp) (by simp)⟩
  refine codeAny_compStart_set ?loop (T.self X.A 0 _ _ _ st4 ?loop)
  case loop =>
    refine loop0 (fold1 ce) (fun n s' => ∃ i H', L2.Inv (X.blk s3 H3 scope ce fp) [] (wipe σ (own.map (·.2))) H' s' ∧ tn i s'.heap ∧ (∀ b ∈ fp, H' b = none) ∧ W i n H') ?_ m0 ⟨0, H3, I4, st4, nfp, w0⟩
    rintro n s5 ⟨i, H5, I5, st5, n5, w5⟩
    rcases turn i n H5 w5 with ⟨stop, qq⟩ | ⟨go, Nx, hNx, step⟩
    · refine thnF (T.done (X.blk s3 H3 scope ce fp) rfl rfl rfl hc i [] s5 _ H5 (fun _ _ => False) I5 (stat I5 n5) st5 stop) fun r s6 ⟨hr, I6⟩ => ?_
      subst hr
      have I7 : L2.Inv X pins σ H5 s6 := I3.call' (ch := fp) I6.os I6.base I6.hok I6.bare fun b hb => ⟨(f3 b hb).1.2.2.2.1, (f3 b hb).1.2.1, (f3 b hb).1.2.2.2.2.1, (f3 b hb).1.2.2.2.2.2⟩
      have nC : H5 s3.heap.objs.size = none := cL ▸ (show H5 ce.locals = none from I6.free)
      obtain ⟨m, hn, _⟩ := I6.loc
      have hn : s6.heap.Ns s3.heap.objs.size m := cL ▸ (show s6.heap.Ns ce.locals m from hn)
      obtain ⟨g0, g1', g2, g3, g4, g5⟩ := I3.fpOk (Nat.le_refl _) nC
      exact ⟨m, hn, fun h'' sb => ⟨.ref D, H5, I7.turned (t' := s6.toks) (fun b o hb e => (sb.2 b hb).trans e) g0 g1' g3 g4 g5, rfl, qq⟩⟩
    · refine thnF (T.item (X.blk s3 H3 scope ce fp) rfl rfl rfl hc i [] s5 _ H5 (fun _ _ => False) I5 (stat I5 n5) st5 go) fun r s6 ⟨u, hr, h6⟩ => ?_
      subst hr
      refine thnF h6 fun _ s7 ⟨x, H7, I7, r7, y7, st7, n7⟩ => ?_
      have I7' := I7.pinned (stat I7 n7) (T.obj _ _ st7)
      refine thnF (pg.run _ s7 _ H7 x u _ I7' r7 (step x H7 y7)) fun _ s8 ⟨σ8, H8, I8, hw8, q8⟩ => ?_
      refine thnF (pi1.run _ s8 σ8 H8 _ I8 q8) fun xv s10 hx => thnF hx fun itv s11 h11 => ?_
      obtain ⟨it1, fp1, tn1, J1, H11, rfl, I11, T1, st11, f11, W1, ⟨m1, w1⟩, turn1'⟩ := h11
      have stat1 : ∀ {H' : Hp}, (∀ b ∈ fp1, H' b = none) → ∀ b ∈ fp1, FpOk (X.blk s3 H3 scope ce fp) ([] ++ pinsAt fp s7.heap) H' b := fun hn b hb => ⟨hn b hb, (f11 b hb).2⟩
      have pinned : ∀ {σ' : L2.St} {H' : Hp} {s' : Shared} {ps : List (Addr × Obj)}, L2.Inv (X.blk s3 H3 scope ce fp) (([] ++ pinsAt fp s7.heap) ++ ps) σ' H' s' → ∀ b ∈ fp, ∀ o, s7.heap.get? b = some o → s'.heap.get? b = some o ∧ H' b = none := fun {σ' H' s' ps} I' b hb o e =>
        let z := I'.pin (b, o) (List.mem_append_right _ (List.mem_append_left _ (List.mem_append_right _ (mem_pinsAt hb e))))
        ⟨z.1, z.2.1⟩
      have len8 : (wipe σ (own.map (·.2))).length = (wipe σ8 vs1).length := by
        have e := congrArg List.length hw8
        rw [wipe_length, wipe_length] at e
        rw [wipe_length, wipe_length, e]
      have kno8 : ∀ (j : Nat) v, (wipe σ (own.map (·.2)))[j]? = some (some v) → (wipe σ8 vs1)[j]? = some (some v) := fun j v e => by
        rw [← hw8] at e
        obtain ⟨e1, e2⟩ := wipe_some e
        rw [wipe_out fun z => e2 (hv j z)]
        exact e1
      refine start1 ?in1 (T1.self X.A 0 _ _ _ st11 ?in1)
      case in1 =>
        refine loop1 (fun k s' => ∃ j H', L2.Inv (X.blk s3 H3 scope ce fp) ([] ++ pinsAt fp s7.heap) (wipe σ8 vs1) H' s' ∧ tn1 j s'.heap ∧ (∀ b ∈ fp1, H' b = none) ∧ W1 j k H') ?_ m1 ⟨0, H11, I11.weak (wipe_length _ _) (fun j v e => (wipe_some e).1), st11, fun b hb => (f11 b hb).1, w1⟩
        rintro k s12 ⟨j, H12, I12, st12, n12, w12⟩
        rcases turn1' j k H12 w12 with ⟨stop1, nx1⟩ | ⟨go1, Nx1, hNx1, step1⟩
        · refine thnF (T1.done (X.blk s3 H3 scope ce fp) rfl rfl rfl hc j _ s12 (wipe σ8 vs1) H12 (fun _ _ => False) I12 (stat1 n12) st12 stop1) fun r s13 ⟨hr, I13⟩ => ?_
          subst hr
          obtain ⟨m', hm, w'⟩ := hNx H12 nx1
          have I13' : L2.Inv (X.blk s3 H3 scope ce fp) (([] ++ pinsAt fp s7.heap) ++ []) (wipe σ8 vs1) H12 s13 := by rw [List.append_nil]; exact I13
          refine ⟨⟨_, rfl⟩, m', hm, i + 1, H12, (I13.unpinned (pins := [])).weak len8 kno8, T.keep _ _ _ st7 fun b hb o e => (pinned I13' b hb o e).1, fun b hb => ?_, w'⟩
          obtain ⟨o, e, _⟩ := T.obj _ _ st7 b hb
          exact (pinned I13' b hb o e).2
        · refine thnF (T1.item (X.blk s3 H3 scope ce fp) rfl rfl rfl hc j _ s12 (wipe σ8 vs1) H12 (fun _ _ => False) I12 (stat1 n12) st12 go1) fun r s13 ⟨u1, hr, h13⟩ => ?_
          subst hr
          refine thnF h13 fun _ s14 ⟨x1, H14, I14, r14, y14, st14, n14⟩ => ?_
          have I14' := I14.pinned (stat1 n14) (T1.obj _ _ st14)
          refine thnF (pg1.run _ s14 (wipe σ8 vs1) H14 x1 u1 _ I14' r14 (step1 x1 H14 y14)) fun _ s15 ⟨σ15, H15, I15, hw15, q15⟩ => ?_
          refine thnF (pe.run _ s15 σ15 H15 _ I15 q15) fun zv s17 ⟨yv, H17, I17, r17, z, L, ey, hD17, hz17, nx⟩ => ?_
          subst ey
          obtain ⟨tk, rfl⟩ : ∃ t, zv = Value.str z t := r17
          refine add_call (X := X.blk s3 H3 scope ce fp) I17 hD17 hz17 fun s18 L' I18 mm nn ll => ?_
          obtain ⟨k', hk, w'⟩ := hNx1 _ (nx L' mm nn ll)
          have pin1 : ∀ b ∈ fp1, ∀ o, s14.heap.get? b = some o → s18.heap.get? b = some o ∧ upd H17 D (SetTx X.prog X.w D L') b = none := fun b hb o e =>
            let z := I18.pin (b, o) (List.mem_append_right _ (List.mem_append_right _ (mem_pinsAt hb e)))
            ⟨z.1, z.2.1⟩
          refine ⟨k', hk, j + 1, _, I18.unpinned.weak (by rw [← hw15, wipe_length]) (fun j v e => by rw [← hw15] at e; exact (wipe_some e).1), T1.keep _ _ _ st14 fun b hb o e => (pin1 b hb o e).1, fun b hb => ?_, w'⟩
          obtain ⟨o, e, _⟩ := T1.obj _ _ st14 b hb
          exact (pin1 b hb o e).2
end
end MyS
end

section
set_option Elab.async false
set_option linter.all false
set_option maxRecDepth 100000
set_option maxHeartbeats 4000000
/-! {f(y) for row in rows for y in row} -/
namespace MyR
open PySem PySem.Spec PyProof.Rows L2 PySem.W PySem.Froz MyF MyS
def lits (ps : List Rs) : List Str := ps.flatMap (·.2)
theorem lits_snoc {ps : List Rs} {i : Nat} {p : Rs} (h : ps[i]? = some p) : lits (ps.take (i + 1)) = lits (ps.take i) ++ p.2 := by
  rw [lits, List.take_add_one, h, List.flatMap_append]
  simp [lits]
theorem lits_le (ps : List Rs) (i : Nat) : (lits (ps.take i)).length ≤ (lits ps).length := by
  have e : lits ps = lits (ps.take i) ++ lits (ps.drop i) := by rw [lits, lits, lits, ← List.flatMap_append, List.take_append_drop]
  rw [e, List.length_append]
  omega
/-- the set so far -/
def SoFar (P : Program) (w : World) (f : Str → Str) (H1 : Hp) (D : Addr) (ys : List Str) (H : Hp) : Prop := Same H1 H ∧ ∃ L, H D = some (SetTx P w D L) ∧ L.Nodup ∧ (∀ u, u ∈ L ↔ u ∈ ys.map f) ∧ L.length ≤ ys.length
theorem SoFar.put {P : Program} {w : World} {f : Str → Str} {H1 H : Hp} {D : Addr} {ys : List Str} {y : Str} {L : List Str} (nD : H1 D = none) (s : Same H1 H) (m : ∀ u, u ∈ L ↔ u ∈ ys.map f) (l : L.length ≤ ys.length) {L' : List Str} (m' : ∀ u, u ∈ L' ↔ u ∈ L ∨ u = f y) (n' : L'.Nodup) (l' : L'.length ≤ L.length + 1) :
    SoFar P w f H1 D (ys ++ [y]) (upd H D (SetTx P w D L')) := by
  refine ⟨fun b o e => ?_, L', upd_same, n', fun u => ?_, ?_⟩
  · rw [upd_ne (ne_of_none e nD)]
    exact s b o e
  · rw [m', m, List.map_append, List.mem_append]
    simp
  · rw [List.length_append, List.length_singleton]
    omega
theorem rows_sc2 {P : Program} {w : World} {K : PySem.W.Frag} {a : Addr} {ps : List Rs} {i i1 i2 : Nat} {te : TE} {vs vs1 : List Nat} {σ : L2.St} {H : Hp} {Q : V → Hp → Prop} (f : Str → Str) (hσ : σ[i]? = some (some (.ref a))) (hS : SqL K H a (refs ps)) (hr : RowsAt H ps) (few : (lits ps).length + 1 < scanBound)
    (w1 : ∀ x, wipe ((wipe σ vs).set i1 (some x)) vs = wipe σ vs) (a1 : ∀ x, ((wipe σ vs).set i1 (some x))[i1]? = some (some x))
    (w2 : ∀ x y, wipe ((wipe ((wipe σ vs).set i1 (some x)) vs1).set i2 (some y)) vs1 = wipe ((wipe σ vs).set i1 (some x)) vs1)
    (step : ∀ x y H2 (Ψ : V → Hp → Prop), y ∈ lits ps → Same H H2 → Ψ (.str (f y)) H2 → te ((wipe ((wipe σ vs).set i1 (some x)) vs1).set i2 (some (.str y))) H2 Ψ)
    (done : ∀ H2 D L, H D = none → Same H H2 → H2 D = some (SetTx P w D L) → L.Nodup → (∀ u, u ∈ L ↔ u ∈ (lits ps).map f) → L.length ≤ (lits ps).length → Q (.ref D) H2) :
    tSc2 P w (iList K (tVar i)) (gName i1) (iTup K (tVar i1)) (gName i2) te vs vs1 σ H Q := by
  refine ⟨_, hσ, a, rfl, ⟨_, hS⟩, fun D nD => ?_⟩
  refine ⟨fun i m H2 => m = ps.length - i ∧ i ≤ ps.length ∧ SoFar P w f H D (lits (ps.take i)) H2, ⟨ps.length, by simp, Nat.zero_le _, same_new nD, [], upd_same, List.nodup_nil, by simp [lits], by simp⟩, ?_⟩
  rintro k m H2 ⟨rfl, hk, so⟩
  have hS2 : SqL K H2 a (refs ps) := sqL_same hS so.1
  by_cases lt : k < ps.length
  · refine .inr ⟨⟨_, V.ref ps[k].1, hS2, by simp [refs, lt]⟩, fun H3 => SoFar P w f H D (lits (ps.take (k + 1))) H3, fun H3 so3 => ⟨ps.length - (k + 1), by omega, rfl, lt, so3⟩, fun x H3 y => ?_⟩
    obtain ⟨rfl, y⟩ := y
    have ex : x = V.ref ps[k].1 := by
      have := y _ hS2
      simp [refs, lt] at this
      exact this.symm
    subst ex
    have ek : ps[k]? = some ps[k] := List.getElem?_eq_getElem lt
    generalize ps[k] = p at ek
    have pm := List.mem_of_getElem? ek
    refine ⟨w1 _, _, a1 _, p.1, rfl, ⟨_, SqT.of (so.1 _ _ (hr p pm))⟩, ?_⟩
    refine ⟨fun j n H4 => n = p.2.length - j ∧ j ≤ p.2.length ∧ SoFar P w f H D (lits (ps.take k) ++ p.2.take j) H4, ⟨p.2.length, by simp, Nat.zero_le _, by simpa using so⟩, ?_⟩
    rintro j n H4 ⟨rfl, hj, so4⟩
    have hT : SqT K H4 p.1 (p.2.map V.str) := SqT.of (so4.1 _ _ (hr p pm))
    by_cases lt2 : j < p.2.length
    · refine .inr ⟨⟨_, V.str p.2[j], hT, by simp [lt2]⟩, fun H5 => SoFar P w f H D (lits (ps.take k) ++ p.2.take (j + 1)) H5, fun H5 so5 => ⟨p.2.length - (j + 1), by omega, rfl, lt2, so5⟩, fun x H5 y => ?_⟩
      obtain ⟨rfl, y⟩ := y
      have ex : x = V.str p.2[j] := by
        have := y _ hT
        simp [lt2] at this
        exact this.symm
      subst ex
      have ej : p.2[j]? = some p.2[j] := List.getElem?_eq_getElem lt2
      generalize p.2[j] = z at ej
      have zm : z ∈ lits ps := List.mem_flatMap.mpr ⟨p, pm, List.mem_of_getElem? ej⟩
      obtain ⟨L, hL, nL, mL, lL⟩ := so4.2
      refine ⟨w2 _ _, step _ z H5 _ zm so4.1 ⟨f z, L, rfl, hL, ?_, fun L' m' n' l' => ?_⟩⟩
      · have q : (lits (ps.take k) ++ p.2.take j).length ≤ (lits ps).length := by
          have e1 := lits_le ps (k + 1)
          rw [lits_snoc ek, List.length_append] at e1
          rw [List.length_append, List.length_take]
          omega
        omega
      · have e : lits (ps.take k) ++ p.2.take (j + 1) = (lits (ps.take k) ++ p.2.take j) ++ [z] := by
          rw [List.take_add_one, ej, List.append_assoc]
          rfl
        show SoFar P w f H D _ _
        rw [e]
        exact SoFar.put nD so4.1 mL lL m' n' l'
    · have e : j = p.2.length := by omega
      subst e
      refine .inl ⟨⟨_, hT, by rw [List.length_map]; exact Nat.le_refl _⟩, ?_⟩
      show SoFar P w f H D (lits (ps.take (k + 1))) H4
      rw [lits_snoc ek]
      rw [List.take_length] at so4
      exact so4
  · have e : k = ps.length := by omega
    subst e
    rw [List.take_length] at so
    obtain ⟨L, hL, nL, mL, lL⟩ := so.2
    exact .inl ⟨⟨_, hS2, by rw [refs, List.length_map]; exact Nat.le_refl _⟩, done H2 D L nD so.1 hL nL mL lL⟩
end MyR
end

section
set_option Elab.async false
set_option linter.all false
set_option maxRecDepth 100000
set_option maxHeartbeats 4000000
namespace My
local macro_rules | `(tactic| walk_at "go") => `(tactic| (repeat (first
  | (refine ⟨_, rfl, ?_⟩)
  | (refine ⟨_, _, rfl, rfl, ?_⟩)
  | (refine ⟨_, _, rfl, ?_⟩)
  | (refine ⟨rfl, ?_⟩)
  | (refine Or.inl ⟨_, rfl, ?_⟩)
  | (refine ⟨_, _, _, _, rfl, rfl, L2.SqL.of (by first | assumption | exact L2.upd_same), rfl, ?_⟩)
  | (refine ⟨_, _, _, _, rfl, rfl, (by first | assumption | exact L2.upd_same), rfl, ?_⟩)
  | (refine And.intro (by first | omega | decide | (unfold L2.CPow; decide) | (unfold L2.CMul; omega) | (unfold L2.CDiv; omega)) ?_))))
open PySem PySem.Spec PyProof.Rows L2 TL MyF MyS MyW RZ MyR
def breaksB (part : List Str) (ys : List Str) : Bool := ys.all fun y => decide (oppS y ∈ part)
/-- a right tree: its leaves are broken rows, no name is asked twice -/
def GoodT (rows : List (List Str)) (ns : List Str) : List Str → Tr → Prop
  | part, .leaf r => r ∈ rows ∧ breaksB part r = true
  | part, .node n x y => n ∈ ns ∧ n ∉ part ∧ oppS n ∉ part ∧ GoodT rows ns (part ++ [n]) x ∧ GoodT rows ns (part ++ [oppS n]) y
def Tr.dep : Tr → Nat
  | .leaf _ => 0
  | .node _ x y => max x.dep y.dep + 1
theorem lit_ok {y : Str} (h : litS y = true) : PyData.strOk y = true := by
  have lo : lowZ (bareS y) = true := h
  by_cases n : negS y = true
  · have e := dash_bare n
    have ob := ok_str lo
    unfold PyData.strOk at ob ⊢
    rw [← Array.all_toList] at ob ⊢
    rw [← e, cps_cat, dash_cps]
    refine List.all_eq_true.mpr fun x hx => ?_
    rcases List.mem_append.mp hx with hx | hx
    · rw [List.mem_singleton.mp hx]
      decide
    · exact List.all_eq_true.mp ob x hx
  · rw [bare_of_pos n] at lo
    exact ok_str lo
theorem lits_okR {r : List Str} (h : r.all litS = true) : OkR r := fun y hy => lit_ok (List.all_eq_true.mp h y hy)
theorem all_true {α : Type} (xs : List α) : (xs.map fun _ => true).all id = true := by simp
theorem nd_few {L few : List Str} (n : L.Nodup) (h : ∀ y ∈ L, y ∈ few) : L.length ≤ few.length := by
  induction L generalizing few with
  | nil => exact Nat.zero_le _
  | cons x L ih =>
    obtain ⟨n1, n2⟩ := List.nodup_cons.mp n
    have hx := h x List.mem_cons_self
    have q := ih (few := few.erase x) n2 fun y hy => (List.mem_erase_of_ne fun (e : y = x) => n1 (e ▸ hy)).mpr (h y (List.mem_cons_of_mem _ hy))
    have z := List.length_erase_of_mem hx
    have pos : 0 < few.length := List.length_pos_of_mem hx
    rw [List.length_cons]
    omega
theorem lits_len {ps : List Rs} (h : ∀ r ∈ ps, r.2.length < 30) : (lits ps).length ≤ 30 * ps.length := by
  induction ps with
  | nil => exact Nat.zero_le _
  | cons p ps ih =>
    have e : lits (p :: ps) = p.2 ++ lits ps := by simp [lits]
    have := ih fun r hr => h r (List.mem_cons_of_mem _ hr)
    have := h p List.mem_cons_self
    rw [e, List.length_append, List.length_cons]
    omega
def Tr.took (part : List Str) : Tr → Tr
  | .leaf r => .leaf r
  | .node n x y => if n ∈ part then x else y
/-- the leaf to which a part-filling leads -/
def Tr.down (part : List Str) : Tr → List Str
  | .leaf r => r
  | .node n x y => if n ∈ part then x.down part else y.down part
/-- what is asked on the way -/
def Tr.asks (part : List Str) : Tr → List Str
  | .leaf _ => []
  | .node n x y => n :: if n ∈ part then x.asks part else y.asks part
theorem took_down {part : List Str} {t : Tr} : (t.took part).down part = t.down part := by
  cases t with
  | leaf r => rfl
  | node n x y =>
    show (if n ∈ part then x else y).down part = if n ∈ part then x.down part else y.down part
    split <;> rfl
def Tr.size : Tr → Nat
  | .leaf _ => 0
  | .node _ x y => x.size + y.size + 1
theorem took_size {part : List Str} {t : Tr} (h : t.isNode = true) : (t.took part).size < t.size := by
  cases t with
  | leaf r => cases h
  | node n x y =>
    show (if n ∈ part then x else y).size < x.size + y.size + 1
    split <;> omega
theorem took_asks {part : List Str} {n : Str} {x y : Tr} : (Tr.node n x y).asks part = n :: ((Tr.node n x y).took part).asks part := by
  show n :: (if n ∈ part then x.asks part else y.asks part) = n :: (if n ∈ part then x else y).asks part
  split <;> rfl
theorem asks_len {part : List Str} : ∀ t : Tr, (t.asks part).length ≤ t.dep
  | .leaf _ => Nat.le_refl _
  | .node n x y => by
    have h1 := asks_len (part := part) x
    have h2 := asks_len (part := part) y
    show (n :: if n ∈ part then x.asks part else y.asks part).length ≤ max x.dep y.dep + 1
    rw [List.length_cons]
    split <;> omega
/-- the ways to all leaves, as they are gone -/
def Tr.ways : List Str → Tr → List (List Str)
  | part, .leaf _ => [part]
  | part, .node n x y => x.ways (part ++ [n]) ++ y.ways (part ++ [oppS n])
theorem ways_len : ∀ {t : Tr} {part : List Str} {d : Nat}, t.dep ≤ d → (t.ways part).length ≤ 2 ^ d
  | .leaf _, _, d, _ => Nat.one_le_two_pow
  | .node n x y, part, d, h => by
    have h' : max x.dep y.dep + 1 ≤ d := h
    obtain ⟨d', rfl⟩ : ∃ d', d = d' + 1 := ⟨d - 1, by omega⟩
    have h1 := ways_len (t := x) (part := part ++ [n]) (d := d') (by omega)
    have h2 := ways_len (t := y) (part := part ++ [oppS n]) (d := d') (by omega)
    show (x.ways (part ++ [n]) ++ y.ways (part ++ [oppS n])).length ≤ _
    rw [List.length_append, Nat.pow_succ]
    omega
theorem ways_short : ∀ {t : Tr} {part : List Str}, ∀ q ∈ t.ways part, q.length ≤ part.length + t.dep
  | .leaf _, part, q, h => by
    rw [List.mem_singleton.mp h]
    exact Nat.le_refl _
  | .node n x y, part, q, h => by
    rcases List.mem_append.mp h with h | h
    · have := ways_short (t := x) (part := part ++ [n]) q h
      rw [List.length_append, List.length_singleton] at this
      show _ ≤ part.length + (max x.dep y.dep + 1)
      omega
    · have := ways_short (t := y) (part := part ++ [oppS n]) q h
      rw [List.length_append, List.length_singleton] at this
      show _ ≤ part.length + (max x.dep y.dep + 1)
      omega
/-- how many texts stand in a row -/
def LenR : V → V → Hp → Prop := fun x y H => ∃ (a : Addr) (w : List Str), x = .ref a ∧ H a = some (.tup (w.map V.str)) ∧ y = .int (w.length : Nat)
theorem lenR_stays : Stays LenR := fun x y H H' D l ⟨a, w, e1, h1, e2⟩ hD far => ⟨a, w, e1, far _ _ h1 (ne_of h1 hD (by intro z; cases z)), e2⟩
theorem lens_rel {H : Hp} : ∀ {ps : List Rs} {ys : List V}, Paired (fun y x => LenR x y H) ys (refs ps) → RowsAt H ps → ys = ps.map fun p => V.int (p.2.length : Nat)
  | [], ys, h, _ => by
    cases h
    rfl
  | p :: ps, ys, h, hr => by
    cases h with
    | cons h1 t =>
      obtain ⟨a, w, e1, h2, rfl⟩ := h1
      injection e1 with e1
      subst e1
      have e4 := (hr p List.mem_cons_self).symm.trans h2
      injection e4 with e4
      injection e4 with e4
      have e5 := strs_eq e4
      rw [lens_rel t fun x hx => hr x (List.mem_cons_of_mem _ hx), ← e5] <;> rfl
section
variable {P : Program} {w : World} {K : PySem.W.Frag} {mg : Str → Option Value} {base : Heap}
def rLenQ (K : PySem.W.Frag) : List V → Hp → VK → Prop := fun xs H Q => ∃ p ys, xs = [V.ref p] ∧ (SqL K H p ys ∨ SqT K H p ys) ∧ Q (V.int ys.length) H
theorem cr_lenQ {X : Cx} : CallR X (.builtin "len") (rLenQ X.K) := call_len_seq
end
end My
end

section
set_option Elab.async false
set_option linter.all false
set_option maxRecDepth 100000
set_option maxHeartbeats 4000000
namespace My
local macro_rules | `(tactic| walk_at "go") => `(tactic| (repeat (first
  | (refine ⟨_, rfl, ?_⟩)
  | (refine ⟨_, _, rfl, rfl, ?_⟩)
  | (refine ⟨_, _, rfl, ?_⟩)
  | (refine ⟨rfl, ?_⟩)
  | (refine Or.inl ⟨_, rfl, ?_⟩)
  | (refine ⟨_, _, _, _, rfl, rfl, L2.SqL.of (by first | assumption | exact L2.upd_same), rfl, ?_⟩)
  | (refine ⟨_, _, _, _, rfl, rfl, (by first | assumption | exact L2.upd_same), rfl, ?_⟩)
  | (refine And.intro (by first | omega | decide | (unfold L2.CPow; decide) | (unfold L2.CMul; omega) | (unfold L2.CDiv; omega)) ?_))))
open PySem PySem.Spec PyProof.Rows L2 TL MyF MyS MyW RZ MyR
structure TxtM (K : PySem.W.Frag) (mg : Str → Option Value) (M : Addr) : Prop where
  cl : Cls K M
  nB : NoAttr K M "bits"
  nS : NoAttr K M "sides"
  nK : NoAttr K M "breaking"
  nE : NoAttr K M "evens"
  mgM : mg "Marks" = some (.ref M)
theorem ip_or {X : Cx} : PIp X .BitOr (rI0 fun i j => .int (Builtin.bitOr i j)) := fun pins s σ H x y v u Q I rx ry h => iop_or pins s σ H x y v u Q I rx ry h
theorem in_or {X : Cx} : InOp X .BitOr (rI0 fun i j => .int (Builtin.bitOr i j)) := fun pins s σ H x y u v Q I rx ry h => iop_or pins s σ H x y u v Q I rx ry h
section
variable {P : Program} {w : World} {K : PySem.W.Frag} {mg : Str → Option Value} {base : Heap}
/-! ### bits_of -/
def spMBits (K : PySem.W.Frag) (M : Addr) : Sp := fun vs H Q _ => ∃ (m a dx db ds dr : Addr) (ev : Int) (kb : List (Key × V)) (ns ys : List Str), vs = [.ref m, .ref a] ∧ H m = some (.ins M dx (fldsM db ds dr ev)) ∧ H db = some (.dK kb) ∧
  (∀ y ∈ ys, valV kb (Sum.inr y) = some (.int ((litB ns y : Nat) : Int))) ∧ SqT K H a (ys.map V.str) ∧ Q (.int ((maskS ns ys : Nat) : Int)) H
theorem sc_mbits : FnScope ["self", "literals", "found", "literal"] ["self", "literals"] (defScope sMBits) := ⟨rfl, rfl, rfl, by decide +kernel, rfl, by decide +kernel, by decide +kernel⟩
theorem ok_mbits {f M : Addr} {fd : FuncData} (G : Fun K "bits_of" "Marks.bits_of" sMBits f fd) (T : TxtM K mg M) : FnOk P w K mg base CX0 1 f fd ["self", "literals"] (spMBits K M) := by
  have sc := sc_mbits
  refine G.ok sc (fun vs H Q E h => ?_) (fun cdv A outer s H vs Q E hr h => ?_)
  · obtain ⟨_, _, _, _, _, _, _, _, _, _, rfl, _⟩ := h
    rfl
  · obtain ⟨m, a, dx, db, ds, dr, ev, kb, ns, ys, rfl, hm, hd, hv, hS, k⟩ := h
    have hu := hu_of hr
    refine ⟨_, pss_cons (ps_set (i := 2) sc.nd rfl (Or.inl rfl) pe_int)
      (pss_cons (ps_for PassesOwn.never rfl (pi_tup (pv 1)) (pg_name (i := 3) sc.nd rfl (Or.inl rfl)) (pss_one (ps_aug (i := 2) sc.nd rfl (Or.inl rfl) (pe_dget hu (pe_fld (pv 0) rfl) (pv 3) (fun _ _ => rfl)) ip_or)))
      (pss_one (ps_ret (pv 2)))), ?_⟩
    refine ⟨_, rfl, a, rfl, ⟨_, hS⟩, ?_⟩
    refine for_tup (xs := ys.map V.str) (fun i σ H2 => H2 = H ∧ ∃ o : Option V, σ = [some (.ref m), some (.ref a), some (.int ((maskS ns (ys.take i) : Nat) : Int)), o]) ⟨rfl, none, rfl⟩ (fun i σ H2 hi h => by rw [h.1]; exact hS) ?_ ?_
    · rintro i x σ H2 hx ⟨rfl, o, rfl⟩
      obtain ⟨y, hy, rfl⟩ : ∃ y, ys[i]? = some y ∧ V.str y = x := by
        rw [List.getElem?_map] at hx
        exact Option.map_eq_some_iff.mp hx
      have my := List.mem_of_getElem? hy
      have g : DGet H2 db (.str y) (some (.int ((litB ns y : Nat) : Int))) := by
        have q := DGet.k (k := Sum.inr y) hd
        rw [hv y my] at q
        exact q
      refine ⟨_, rfl, _, rfl, m, M, dx, _, _, rfl, hm, T.cl, T.nB, fm_bits _ _ _ _, _, rfl, db, _, rfl, g, _, _, rfl, rfl, rfl, some (.str y), ?_⟩
      have e : Builtin.bitOr ((maskS ns (ys.take i) : Nat) : Int) ((litB ns y : Nat) : Int) = ((maskS ns (ys.take (i + 1)) : Nat) : Int) := by rw [or_nat, ← mask_snoc, ← take_snoc hy]
      rw [← e]
      rfl
    · rintro σ H2 ⟨rfl, o, rfl⟩
      rw [List.length_map, List.take_length]
      exact ⟨_, rfl, k⟩
/-! ### contraries -/
def spMContr (M : Addr) : Sp := fun vs H Q _ => ∃ (m dx db ds dr : Addr) (n k : Nat), vs = [.ref m, .int (k : Int)] ∧ H m = some (.ins M dx (fldsM db ds dr ((evenS n : Nat) : Int))) ∧ n ≤ 30 ∧ Q (.int ((contrS n k : Nat) : Int)) H
theorem sc_mcontr : FnScope ["self", "bits"] ["self", "bits"] (defScope sMContr) := ⟨rfl, rfl, rfl, by decide +kernel, rfl, by decide +kernel, by decide +kernel⟩
theorem ok_mcontr {f M : Addr} {fd : FuncData} (G : Fun K "contraries" "Marks.contraries" sMContr f fd) (T : TxtM K mg M) : FnOk P w K mg base CX0 1 f fd ["self", "bits"] (spMContr M) := by
  have sc := sc_mcontr
  refine G.ok sc (fun vs H Q E h => ?_) (fun cdv A outer s H vs Q E hr h => ?_)
  · obtain ⟨_, _, _, _, _, _, _, rfl, _⟩ := h
    rfl
  · obtain ⟨m, dx, db, ds, dr, n, k, rfl, hm, hn, q⟩ := h
    refine ⟨_, pss_one (ps_ret (pe_op op_or (pe_op op_shl (pe_op op_and (pv 1) (pe_fld (pv 0) rfl)) pe_int) (pe_op op_and (pe_op op_shr (pv 1) pe_int) (pe_fld (pv 0) rfl)))), ?_⟩
    have small : (k &&& evenS n) < 2 ^ 64 := Nat.lt_of_le_of_lt Nat.and_le_right (Nat.lt_of_lt_of_le (even_lt n) (Nat.pow_le_pow_right (by decide) (by omega)))
    have e1 : ((k : Int) / 2 ^ (1 : Int).toNat) = ((k / 2 : Nat) : Int) := by
      show (k : Int) / 2 ^ 1 = _
      omega
    have e2 : (((k &&& evenS n : Nat) : Int) * 2 ^ (1 : Int).toNat) = (((k &&& evenS n) * 2 : Nat) : Int) := by
      show ((k &&& evenS n : Nat) : Int) * 2 ^ 1 = _
      omega
    refine ⟨_, rfl, _, rfl, m, M, dx, _, _, rfl, hm, T.cl, T.nE, fm_evens _ _ _ _, _, _, rfl, rfl, ?_⟩
    refine ⟨((k &&& evenS n : Nat) : Int), 1, congrArg V.int (and_nat _ _), rfl, ⟨by decide, by decide, by rw [Int.natAbs_natCast]; exact small⟩, ?_⟩
    refine ⟨_, rfl, _, _, rfl, rfl, (show (0 : Int) ≤ 1 by decide), ?_⟩
    refine ⟨_, rfl, m, M, dx, _, _, rfl, hm, T.cl, T.nE, fm_evens _ _ _ _, ((k / 2 : Nat) : Int), _, congrArg V.int e1, rfl, ?_⟩
    refine ⟨(((k &&& evenS n) * 2 : Nat) : Int), ((k / 2 &&& evenS n : Nat) : Int), congrArg V.int e2, congrArg V.int (and_nat _ _), ?_⟩
    have e3 := or_nat ((k &&& evenS n) * 2) (k / 2 &&& evenS n)
    show Q (.int (Builtin.bitOr _ _)) H
    rw [e3]
    exact q
/-! ### sides_of -/
def spMSides (K : PySem.W.Frag) (M : Addr) : Sp := fun vs H Q _ => ∃ (m : Addr) (v : V) (k : Nat) (rows : List (List Str)) (ns : List Str), vs = [.ref m, v, .int (k : Int)] ∧ MarksAt M H m rows ns ∧ Known K H v ∧
  (∀ x, v = .str x → x ∈ ns → (2 ^ (2 * ns.idxOf x) ||| 2 ^ (2 * ns.idxOf x + 1)) &&& k = 0 → ∀ H' p, Same H H' → H p = none → H' p = some (.tup [.int ((2 ^ (2 * ns.idxOf x) : Nat) : Int), .int ((2 ^ (2 * ns.idxOf x + 1) : Nat) : Int)]) → Q (.ref p) H') ∧
  ((∀ x, v = .str x → x ∈ ns → (2 ^ (2 * ns.idxOf x) ||| 2 ^ (2 * ns.idxOf x + 1)) &&& k ≠ 0) → Q .non H)
theorem sc_msides : FnScope ["self", "value", "bits", "high", "low"] ["self", "value", "bits"] (defScope sMSides) := ⟨rfl, rfl, rfl, by decide +kernel, rfl, by decide +kernel, by decide +kernel⟩
theorem ok_msides {f M : Addr} {fd : FuncData} (G : Fun K "sides_of" "Marks.sides_of" sMSides f fd) (B : Pts mg) (T : TxtM K mg M) : FnOk P w K mg base CX0 1 f fd ["self", "value", "bits"] (spMSides K M) := by
  have sc := sc_msides
  refine G.ok sc (fun vs H Q E h => ?_) (fun cdv A outer s H vs Q E hr h => ?_)
  · obtain ⟨_, _, _, _, _, rfl, _⟩ := h
    rfl
  · obtain ⟨m, v, k, rows, ns, rfl, ⟨dx, db, ds, dr, hm, dt⟩, kn, yes, no⟩ := h
    have hu := hu_of hr
    obtain ⟨ks, s1, s2, s3, s4⟩ := dt.ks
    rw [List.take_length] at s3 s4
    refine ⟨_, pss_cons (ps_if (PW.pt (pw_or (pt_not (pt_val (pe_callB call_isi (by rfl) B.isinstance boot_isinstance (pa_cons (pv 1) (pa_cons (pe_bltn (v := .ty "str") (by rfl) B.str boot_str rfl) pa_nil)))))
        (pw_or1 (pt_cmp (pc_dnotin hu (pv 1) (pe_fld (pv 0) rfl)))))) (pss_one (ps_ret pe_non)) pss_nil)
      (pss_cons (ps_asg (pe_dget hu (pe_fld (pv 0) rfl) (pv 1) (fun _ _ => rfl)) (pg_tup (by rfl) (pgs_cons (pg_name (i := 3) sc.nd rfl (Or.inl rfl)) (pgs_cons (pg_name (i := 4) sc.nd rfl (Or.inl rfl)) pgs_nil))))
      (pss_one (ps_ret (pe_ifExp (pt_truth (pe_op op_and (pe_op op_or (pv 3) (pv 4)) (pv 2)) (by intro _; rfl)) pe_non (pe_tup (pa_cons (pv 3) (pa_cons (pv 4) pa_nil))))))), ?_⟩
    rcases kn with ⟨z, rfl, hz⟩ | ⟨t, ty, ki, ne⟩
    · refine ⟨_, rfl, ?_⟩
      refine ⟨.str z, .ty "str", _, _, true, rfl, .ty "str", .base (.str z), kit_ty (by decide +kernel), ?_⟩
      refine ⟨_, rfl, iteF ?_⟩
      have gd : DGet H ds (.str z) (valV ks (Sum.inr z)) := DGet.k (k := Sum.inr z) s1
      refine ⟨_, rfl, _, rfl, m, M, dx, _, _, rfl, hm, T.cl, T.nS, fm_sides _ _ _ _, ds, _, rfl, gd, _, rfl, ?_⟩
      by_cases hz2 : z ∈ ns
      · obtain ⟨t, e1, e2⟩ := s3 z hz2
        rw [e1] at gd ⊢
        refine iteF ?_
        refine ⟨_, rfl, m, M, dx, _, _, rfl, hm, T.cl, T.nS, fm_sides _ _ _ _, _, rfl, ds, _, rfl, gd, ?_⟩
        refine ⟨t, _, rfl, SqT.of e2, rfl, ?_⟩
        refine ⟨_, _, rfl, _, _, rfl, rfl, ?_⟩
        refine ⟨_, rfl, _, rfl, _, _, rfl, rfl, _, rfl, ((2 ^ (2 * ns.idxOf z) ||| 2 ^ (2 * ns.idxOf z + 1) : Nat) : Int), _, congrArg V.int (or_nat _ _), rfl, ?_⟩
        refine ⟨((((2 ^ (2 * ns.idxOf z) ||| 2 ^ (2 * ns.idxOf z + 1)) &&& k : Nat) : Int) != 0), ?_, ?_⟩
        · rw [← and_nat]
          rfl
        by_cases fr : (2 ^ (2 * ns.idxOf z) ||| 2 ^ (2 * ns.idxOf z + 1)) &&& k = 0
        · rw [fr]
          refine iteF ?_
          refine ⟨_, rfl, _, rfl, (by show 2 ≤ sizeLine; decide), fun p np => ?_⟩
          exact yes z rfl hz2 fr _ p (same_new np) np upd_same
        · have e : ((((2 ^ (2 * ns.idxOf z) ||| 2 ^ (2 * ns.idxOf z + 1)) &&& k : Nat) : Int) != 0) = true := by
            rw [bne_iff_ne]
            omega
          rw [e]
          refine iteT ?_
          exact no fun x ex hx => by
            injection ex with ex
            subst ex
            exact fr
      · rw [s4 z hz2]
        refine iteT ?_
        exact no fun x ex hx => by
          injection ex with ex
          subst ex
          exact absurd hx hz2
    · refine ⟨_, rfl, ?_⟩
      refine ⟨v, .ty "str", _, _, false, rfl, .ty "str", ty, ki, ?_⟩
      exact ⟨_, rfl, iteT (no fun x ex _ => absurd ex (ne x))⟩
/-! ### row_in: a tuple of texts -/
def spMRow (M : Addr) : Sp := fun vs H Q _ => ∃ (m a : Addr) (r : List Str) (rows : List (List Str)) (ns : List Str), vs = [.ref m, .ref a] ∧ MarksAt M H m rows ns ∧ H a = some (.tup (r.map V.str)) ∧ r.length < 1000 ∧
  ∀ H', Same H H' → Q (if r ∈ rows then .int ((maskS ns (r.map oppS) : Nat) : Int) else .non) H'
theorem sc_mrow : FnScope ["self", "value", "literal"] ["self", "value"] (defScope sMRow) := ⟨rfl, rfl, rfl, by decide +kernel, rfl, by decide +kernel, by decide +kernel⟩
theorem ok_mrow {f M : Addr} {fd : FuncData} (G : Fun K "row_in" "Marks.row_in" sMRow f fd) (B : Pts mg) (T : TxtM K mg M) : FnOk P w K mg base CX0 1 f fd ["self", "value"] (spMRow M) := by
  have sc := sc_mrow
  refine G.ok sc (fun vs H Q E h => ?_) (fun cdv A outer s H vs Q E hr h => ?_)
  · obtain ⟨_, _, _, _, _, rfl, _⟩ := h
    rfl
  · obtain ⟨m, a, r, rows, ns, rfl, hM, ha, few, k⟩ := h
    have hu := hu_of hr
    refine ⟨_, pss_cons (ps_if (PW.pt (pw_or (pt_not (pt_val (pe_callB call_isi (by rfl) B.isinstance boot_isinstance (pa_cons (pv 1) (pa_cons (pe_bltn (v := .ty "tuple") (by rfl) B.tuple boot_tuple rfl) pa_nil)))))
        (pw_or1 (pt_not (pt_val (pe_callB (cr_all rfl) (by rfl) B.all (by decide +kernel) (pa_cons (pe_lc (own := [("literal", 2)]) (g := gName 2) (tt := tYes) (te := tCB (rIsi K) (tCons (tVar 2) (tCons (tC (.ty "str")) tNil))) rfl sc.nd (pi_sq (pv 1))
        (blkOk_by (N := ["self", "value", "literal"]) (sc := defScope sMRow) (by decide +kernel)) (fun _ _ _ _ _ => pg_name (i := 2) sc.nd rfl (Or.inl rfl)) (fun _ _ _ _ _ => pts_nil)
        (fun _ _ _ _ _ => pe_callB call_isi (by rfl) B.isinstance boot_isinstance (pa_cons (pv 2) (pa_cons (pe_bltn (v := .ty "str") (by rfl) B.str boot_str rfl) pa_nil)))) pa_nil))))))) (pss_one (ps_ret pe_non)) pss_nil)
      (pss_one (ps_ret (pe_dget1 hu (pe_fld (pv 0) rfl) (pv 1) ⟨by rfl, by rfl, by rfl, by rfl⟩))), ?_⟩
    refine ⟨_, rfl, ?_⟩
    refine ⟨.ref a, .ty "tuple", _, _, true, rfl, .ty "tuple", tup_ty (SqT.of ha), kit_ty (by decide +kernel), ?_⟩
    refine ⟨_, rfl, iteF ?_⟩
    dsimp only [tNot, tB, tCB, tCons, tNil]
    refine seq_lc (fun x => some (.bl ((fun _ => true) x))) rfl (.inr (SqT.of ha)) (by rw [List.length_map, sizeLine_eq]; omega) (fun x H2 Ψ Θ hx s2 yes no => ?_) (fun H2 D s2 nD h2 => ?_)
    · obtain ⟨y, hy, rfl⟩ := List.mem_map.mp hx
      walk_at "go"
      exact ⟨.str y, .ty "str", _, _, true, rfl, .ty "str", .base (.str y), kit_ty (by decide +kernel), yes _ H2 rfl (same_refl _)⟩
    · refine all_done h2 ?_
      have all1 : (r.map V.str).all (fun _ => true) = true := List.all_eq_true.mpr fun _ _ => rfl
      rw [all1]
      refine ⟨_, rfl, iteF ?_⟩
      obtain ⟨dx, db, ds, dr, hm, dt⟩ := hM.same s2
      obtain ⟨kr, r1, r2, r3⟩ := dt.kr
      rw [List.take_length] at r3
      have g : DGet H2 dr (.ref a) (valV kr (r.map Sum.inr)) := DGet.t (k := r.map Sum.inr) r1 (by rw [s2 _ _ ha, List.map_map]; rfl)
      rw [r3] at g
      refine ⟨_, rfl, m, M, dx, _, _, rfl, hm, T.cl, T.nK, fm_breaking _ _ _ _, dr, rfl, .inr ⟨_, .inl r1⟩, _, rfl, _, g, ?_⟩
      have q := k H2 s2
      by_cases c : r ∈ rows
      · rw [if_pos c] at q ⊢
        exact q
      · rw [if_neg c] at q ⊢
        exact q
end
end My
end

section
set_option Elab.async false
set_option linter.all false
set_option maxRecDepth 100000
set_option maxHeartbeats 4000000
namespace PySem
open Sem (wp)
set_option maxHeartbeats 1000000 in
theorem my_enumerate_new {v : Value} {o : Obj} {H : Heap → Prop} (B : Begins v o H) :
    Meets (Builtin.«enumerate.__new__» ⟨[.type "enumerate", v], []⟩) (fun _ R s => H s.heap ∧
      R (.ok (.ret (.ref (s.heap.push o).objs.size))) { s with heap := (s.heap.push o).push { cls := .type "enumerate", data := .fields #[.none, .bool false, .ref s.heap.objs.size, rawInt 0, .none, .none] } }) :=
  .of_wp fun prog w A R s h => by
    obtain ⟨hp, g, d, tk, os⟩ := s; obtain ⟨h1, h⟩ := h
    have hsub := sub_enumerate
    have q1 : ∀ {A' : Around} {E : Value → Shared → Prop} {Q : Value → Shared → Prop}, Q (.ref hp.objs.size) ⟨hp.push o, g, d, tk, os⟩ → wpAny (model prog w) A' (pyIter v) Q E ⟨hp, g, d, tk, os⟩ :=
      fun q => B.iter prog w _ _ ⟨hp, g, d, tk, os⟩ _ h1 q
    wp_walk using q1
    refine wpAny_stack_any fun st => wpAny_pure ?_
    split
    · rename_i c _ _ _ _ _
      cases (c == Value.type "enumerate")
      · wp_walk using q1
        exact ⟨_, rfl, h⟩
      · wp_walk using q1
        exact ⟨_, rfl, h⟩
    · wp_walk using q1
      exact ⟨_, rfl, h⟩
section
variable {prog : Program} {w : World} {A : Around} {E : Value → Shared → Prop} {s : Shared}
/-- enumerate(v): its two new cells -/
theorem my_enum_begins {v : Value} {o : Obj} {H : Heap → Prop} {Q : Value → Shared → Prop} (B : Begins v o H) (h1 : H s.heap)
    (h : ∀ h', IsEnum h' (s.heap.objs.size + 1) s.heap.objs.size 0 .none → h'.get? s.heap.objs.size = some o → h'.objs.size = s.heap.objs.size + 2 →
      (∀ b o, s.heap.get? b = some o → h'.get? b = some o) → Q (.ref (s.heap.objs.size + 1)) { s with heap := h' }) :
    wpAny (model prog w) A (call (.type "enumerate") [v]) Q E s := by
  refine callType_new F.called_enumerate (by decide) (F.typeCall_enumerate_1 _) (F.newCall_enumerate_1 _) (fun obj => F.args_object_init_2 obj _) F.entry_enumerate_new
    (my_enumerate_new B) ⟨h1, ?_⟩
  have hz : (s.heap.push o).objs.size = s.heap.objs.size + 1 := Heap.size_push ..
  show _ ∧ _
  rw [hz]
  have he : IsEnum ((s.heap.push o).push { cls := .type "enumerate", data := .fields #[.none, .bool false, .ref s.heap.objs.size, rawInt 0, .none, .none] }) (s.heap.objs.size + 1) s.heap.objs.size 0 .none := by
    have := Heap.get?_push_size (s.heap.push o) (o := { cls := .type "enumerate", data := .fields #[.none, .bool false, .ref s.heap.objs.size, rawInt 0, .none, .none] }) rfl
    rw [hz] at this; exact this
  refine ⟨⟨_, he, rfl⟩, h _ he (Heap.get?_push_of_some _ (Heap.get?_push_size _ B.free)) (by rw [Heap.size_push, hz]) fun b o x => Heap.get?_push_of_some _ (Heap.get?_push_of_some _ x)⟩
theorem my_enum_end {e it l : Addr} {i : Nat} {items : Array Value} {old : Value} {Q : Option Value → Shared → Prop} (hh : A.handled = none)
    (he : IsEnum s.heap e it i old) (hit : s.heap.IsTupleIter it l i) (hl : s.heap.IsTuple l items) (hx : items[i]? = none)
    (hQ : ∀ h', Heap.ExtBut it s.heap h' → Q none { s with heap := h' }) : wpAny (model prog w) A (pyNext (.ref e)) Q E s := by
  have hT : s.TypeIs (.ref e) "enumerate" := ⟨_, he, rfl⟩
  unfold pyNext
  refine wpAny_bind (wpAny_attempt (wpAny_callSpecial?_slot (name := Str.ofString "__next__") hT F.slot_enumerate_next
    (wpAny_call_entry F.slot_enumerate_next hT F.entry_enumerate_next ?_ (F.args_enumerate_next_1 _))))
  show wpAny _ _ (field (.ref e) 2 >>= _) _ _ _
  refine wpAny_bind (wpAny_field he rfl (x := .ref it) rfl ?_)
  refine wpAny_bind (wpAny_nextOf_tuple_end hh hit hl hx fun h' x he' hx' => ?_)
  obtain ⟨o, ho, hc⟩ := hx'
  refine wpAny_bind (wpAny_isInstance (T := "StopIteration") (b := true) ⟨o, ho, hc⟩ isSubtype_stop ?_)
  exact wpAny_pure (hQ _ he')
end
end PySem
namespace MyEn
open PySem PySem.Spec PyProof.Rows L2
/-- the tuple at a as it stands at each turn, each item in a new pair -/
def IteT (K : PySem.W.Frag) (a : Addr) : It :=
  ⟨fun i H => ∃ (xs : List V) (x : V), SqT K H a xs ∧ xs[i]? = some x, fun i H v H' => ∃ T x, v = .ref T ∧ H T = none ∧ H' = upd H T (.tup [.int (i : Nat), x]) ∧ ∀ xs, SqT K H a xs → xs[i]? = some x, fun i H => ∃ xs : List V, SqT K H a xs ∧ xs.length ≤ i⟩
theorem turn_enumT {P : Program} {w : World} {K : PySem.W.Frag} {elts : List Expr} {kk : Nat} {tpos : Pos} (a e it : Addr) :
    Turn P w K (.Tuple elts kk tpos) (IteT K a) [e, it] e (fun i h => (∃ old, IsEnum h e it ((i : Nat) : Int) old) ∧ h.IsTupleIter it a i ∧ e ≠ it ∧ a ≠ it ∧ e ≠ a) where
  mem := by simp
  obj := fun i h st b hb => by
    obtain ⟨⟨old, he⟩, ⟨o, ho, hc, hd⟩, _⟩ := st
    have e' : b = e ∨ b = it := by simpa using hb
    rcases e' with z | z
    · rw [z]; exact ⟨_, he, fun v q => nomatch q⟩
    · rw [z]; exact ⟨o, ho, fun v q => by rw [hd] at q; cases q⟩
  keep := fun i h h' st k => let ⟨⟨old, he⟩, hi, hne⟩ := st; ⟨⟨old, k e (by simp) _ he⟩, hi.at fun o q => k it (by simp) o q, hne⟩
  item := by
    intro X hP hw hK hc i pins s σ H E I hf st hg
    subst hP hw hK
    obtain ⟨⟨old, he⟩, hit, hne, hai, hea⟩ := st
    obtain ⟨xs, x, hq, hx⟩ := hg
    obtain ⟨its, rv, p, hz⟩ := I.tuple hq
    obtain ⟨u, hu, ru⟩ := rv.get hx
    have hel : e < s.heap.objs.size := Heap.lt_size he
    have hil : it < s.heap.objs.size := by obtain ⟨_, q, _⟩ := hit; exact Heap.lt_size q
    have pT : s.heap.IsTuple a its.toArray := p
    have D := Draws.tuple (prog := X.prog) (w := X.w) (A := X.A.in1) (I.ok.hd hc) it a hai its.toArray
    refine wpAny_pyNext_enum_itemD D he ⟨hit, pT⟩ (by
      have := (List.getElem?_eq_some_iff.mp hu).1
      simpa using this) hne (by simp [hne, hea]) fun x' h' tk hP ho hst hT hsz hk => ?_
    have ex' : x' = u := by
      have z : its.toArray[i]? = some x' := hP
      simp [hu] at z
      exact z.symm
    subst ex'
    obtain ⟨hit', pT'⟩ := hst
    refine ⟨_, rfl, wpAny_letOwnedTupleGo_enum (s := { s with heap := h', toks := tk + 1 }) ho fun h'' he' sb => ?_⟩
    have hT2 : h''.get? s.heap.objs.size = some { cls := .type "tuple", data := .seq #[.int i tk, x'] } := (sb.2 _ (Nat.ne_of_gt hel)).trans hT
    have new : ObjOk X.prog X.w (upd H s.heap.objs.size (.tup [.int (i : Nat), x])) h'' s.heap.objs.size (.tup [.int (i : Nat), x]) :=
      ⟨by show 2 ≤ sizeLine; decide, [.int i tk, x'], .cons ⟨_, rfl⟩ (.cons ru .nil), ⟨_, hT2, rfl, _, rfl⟩⟩
    have I1 : Inv X pins σ (upd H s.heap.objs.size (.tup [.int (i : Nat), x])) { s with heap := h'', toks := tk + 1 } :=
      I.turnedNew (ch := [e, it]) (fun b ob hb q => (sb.2 b (fun z => hb (by simp [z]))).trans (hk b ob (fun z => hb (by simp [z])) (fun z => hb (by simp [z])) q)) hf (Nat.le_refl _) new
    refine ⟨.ref s.heap.objs.size, _, I1, rfl, ⟨_, x, rfl, I.hok.fresh (Nat.le_refl _), rfl, fun ys hy => by rw [I.tuple_inj hy hq]; exact hx⟩, ⟨⟨x', ?_⟩, hit'.at fun o q => (sb.2 it (Ne.symm hne)).trans q, hne, hai, hea⟩, fun b hb => ?_⟩
    · have e1 : ((i + 1 : Nat) : Int) = (i : Int) + 1 := by omega
      rw [e1]; exact he'
    · have hb' : b < s.heap.objs.size := by
        have e' : b = e ∨ b = it := by simpa using hb
        rcases e' with z | z
        · rw [z]; exact hel
        · rw [z]; exact hil
      rw [upd_ne (Nat.ne_of_lt hb')]
      exact (hf b hb).1
  done := by
    intro X hP hw hK hc i pins s σ H E I hf st hg
    subst hP hw hK
    obtain ⟨⟨old, he⟩, hit, hne, hai, hea⟩ := st
    obtain ⟨xs, hq, hx⟩ := hg
    obtain ⟨its, rv, p, hz⟩ := I.tuple hq
    obtain ⟨f0, f1, f2, f3, f4, f5⟩ := hf it (by simp)
    have hl := rv.length
    have pT : s.heap.IsTuple a its.toArray := p
    exact my_enum_end (I.ok.hd hc) he hit pT (by simp; omega) fun h' eb => ⟨rfl, I.turned (t' := s.toks) (fun b o hb q => eb b o hb q) f0 f1 f3 f4 f5⟩
  self := fun A i s Q E st h => let ⟨⟨_, he⟩, _⟩ := st; wpAny_pyIter_enum he h
def iEnumT (K : PySem.W.Frag) (ta : TA) : TI := fun σ H R => ta σ H fun vs H1 => ∃ a xs, vs = [.ref a] ∧ SqT K H1 a xs ∧ R (IteT K a) H1
theorem pi_enumT {X : Cx} {e : Expr} {ta : TA} {p pos tpos : Pos} {elts : List Expr} {kk : Nat} (hg : Gl X "enumerate") (hm : X.mg "enumerate" = none) (ha : PA X [e] ta) (hs : starEach [e] X.env = [(false, eval e X.env)] := by rfl) :
    PI X (.Tuple elts kk tpos) (.Call (.Name "enumerate" p) [e] [] pos) (iEnumT X.K ta) := by
  refine ⟨fun pins s σ H R I h => ?_⟩
  refine Call_ (ld_blt I hg hm boot_enumerate (PyProof.Rows.callWith_type1 (thn (ha.run pos pins s σ H _ I h) fun us s1 ⟨vs, H1, I1, r1, q1⟩ => ?_) hs rfl))
  obtain ⟨a, xs, ex, hq, q⟩ := q1
  subst ex
  cases r1 with
  | cons r rr =>
    cases rr
    cases r
    obtain ⟨its, rv, p', hz⟩ := I1.tuple hq
    have pT : s1.heap.IsTuple a its.toArray := p'
    have al : a < s1.heap.objs.size := by
      obtain ⟨o, ho, _⟩ := pT
      exact Heap.lt_size ho
    refine my_enum_begins (begins_tuple a its.toArray) pT fun h' he hit hsz hk => wpAny_pyIter_enum he ?_
    have I2 : Inv X pins σ H1 { s1 with heap := h' } := I1.kept (t' := s1.toks) hk
    refine ⟨s1.heap.objs.size + 1, [s1.heap.objs.size + 1, s1.heap.objs.size], _, _, H1, rfl, I2, turn_enumT a (s1.heap.objs.size + 1) s1.heap.objs.size, ⟨⟨.none, he⟩, ⟨_, hit, rfl, rfl⟩, Nat.succ_ne_self _, Nat.ne_of_lt al, Nat.ne_of_gt (Nat.lt_succ_of_lt al)⟩, fun b hb => ?_, q⟩
    have e' : b = s1.heap.objs.size + 1 ∨ b = s1.heap.objs.size := by simpa using hb
    have hle : s1.heap.objs.size ≤ b := by
      rcases e' with z | z
      · rw [z]; exact Nat.le_add_right _ _
      · rw [z]; exact Nat.le_refl _
    exact I1.fpOk hle (I1.hok.fresh hle)
theorem walk_enumT {K : PySem.W.Frag} {a : Addr} {xs : List V} : Walk (IteT K a) xs.length (fun H => SqT K H a xs) (YPair (fun i => some (.int (i : Nat))) (fun i => xs[i]?)) := by
  refine ⟨fun i _ hi q => ⟨xs, xs[i], q, by simp [hi]⟩, fun _ q => ⟨xs, q, Nat.le_refl _⟩, fun i H v H' _ q y => ?_⟩
  obtain ⟨T, x, h1, h2, h3, h4⟩ := y
  exact ⟨T, _, x, h1, h2, h3, rfl, h4 xs q⟩
end MyEn
end

section
set_option Elab.async false
set_option linter.all false
set_option maxRecDepth 100000
set_option maxHeartbeats 4000000
namespace My
local macro_rules | `(tactic| walk_at "go") => `(tactic| (repeat (first
  | (refine ⟨_, rfl, ?_⟩)
  | (refine ⟨_, _, rfl, rfl, ?_⟩)
  | (refine ⟨_, _, rfl, ?_⟩)
  | (refine ⟨rfl, ?_⟩)
  | (refine Or.inl ⟨_, rfl, ?_⟩)
  | (refine ⟨_, _, _, _, rfl, rfl, L2.SqL.of (by first | assumption | exact L2.upd_same), rfl, ?_⟩)
  | (refine ⟨_, _, _, _, rfl, rfl, (by first | assumption | exact L2.upd_same), rfl, ?_⟩)
  | (refine And.intro (by first | omega | decide | (unfold L2.CPow; decide) | (unfold L2.CMul; omega) | (unfold L2.CDiv; omega)) ?_))))
open PySem PySem.Spec PyProof.Rows L2 TL MyF MyS MyW RZ MyR
/-- all that stood but p stays -/
def Fr (p : Addr) (H H' : Hp) : Prop := ∀ b o, H b = some o → b ≠ p → H' b = some o
theorem Fr.new {p d : Addr} {H0 H : Hp} (f : Fr p H0 H) (hp : ∃ u, H p = some u) (n : H d = none) : H0 d = none := by
  cases e : H0 d with
  | none => rfl
  | some o =>
    by_cases z : d = p
    · obtain ⟨u, hu⟩ := hp
      rw [z, hu] at n
      cases n
    · have := f _ _ e z
      rw [n] at this
      cases this
theorem Fr.put {p d : Addr} {H0 H : Hp} {o : HO} (f : Fr p H0 H) (n : H0 d = none) : Fr p H0 (upd H d o) := fun b u e h => by
  rw [upd_ne (ne_of_none e n)]
  exact f b u e h
theorem Fr.self {p : Addr} {H0 H : Hp} {o : HO} (f : Fr p H0 H) : Fr p H0 (upd H p o) := fun b u e h => by
  rw [upd_ne h]
  exact f b u e h
theorem new_fld {H : Hp} {p d dx M : Addr} {fs : List (Str × V)} {f : Str} {o : HO} (hp : H p = some (.ins M dx fs)) (nd : H d = none) :
    upd (upd H d o) p (.ins M dx (putF f (.ref d) fs)) p = some (.ins M dx (putF f (.ref d) fs)) ∧ upd (upd H d o) p (.ins M dx (putF f (.ref d) fs)) d = some o ∧ d ≠ p ∧
      ∀ b u, H b = some u → b ≠ p → upd (upd H d o) p (.ins M dx (putF f (.ref d) fs)) b = some u := by
  have n : d ≠ p := fun z => by
    rw [z, hp] at nd
    cases nd
  exact ⟨upd_same, (upd_ne n).trans upd_same, n, fun b u e h => (upd_ne h).trans ((upd_ne (ne_of_none e nd)).trans e)⟩
section
variable {P : Program} {w : World} {K : PySem.W.Frag} {mg : Str → Option Value} {base : Heap}
/-! ### part_in: a part-filling -/
def spMPart (K : PySem.W.Frag) (M : Addr) : Sp := fun vs H Q _ => ∃ (m a : Addr) (ys : List Str) (rows : List (List Str)) (ns : List Str), vs = [.ref m, .ref a] ∧ MarksAt M H m rows ns ∧ ClAt K H a ys ∧ (∀ y ∈ ys, bareS y ∈ ns) ∧ ∀ k : Int, Q (.int k) H
theorem sc_mpart : FnScope ["self", "value", "found", "last", "literal"] ["self", "value"] (defScope sMPart) := ⟨rfl, rfl, rfl, by decide +kernel, rfl, by decide +kernel, by decide +kernel⟩
theorem ok_mpart {f M : Addr} {fd : FuncData} (G : Fun K "part_in" "Marks.part_in" sMPart f fd) (B : Pts mg) (T : TxtM K mg M) : FnOk P w K mg base CX0 1 f fd ["self", "value"] (spMPart K M) := by
  have sc := sc_mpart
  refine G.ok sc (fun vs H Q E h => ?_) (fun cdv A outer s H vs Q E hr h => ?_)
  · obtain ⟨_, _, _, _, _, rfl, _⟩ := h
    rfl
  · obtain ⟨m, a, ys, rows, ns, rfl, ⟨dx, db, ds, dr, hm, dt⟩, cl, nam, k⟩ := h
    have hu := hu_of hr
    obtain ⟨kb, b1, b2, b3⟩ := dt.kb
    rw [List.take_length] at b3
    have cs := cl.2.1
    unfold clS at cs
    rw [Bool.and_eq_true, Bool.and_eq_true] at cs
    have lits := cs.1.1
    have wk : walkC "" (ys.map V.str) = true := by
      rw [walkC_top, strsV_map, cs.1.2, Bool.and_true, List.all_map]
      exact lits
    have lo : ∀ y ∈ ys, LitOf ns y := fun y hy => ⟨List.all_eq_true.mp lits y hy, nam y hy⟩
    have nc : ∀ y ∈ ys, oppS y ∉ ys := fun y hy h => by
      have e : hasS ys = false := by simpa using cs.2
      unfold hasS at e
      exact absurd (decide_eq_true h) (List.any_eq_false.mp e y hy)
    refine ⟨_, pss_cons (ps_if (pt_not (pt_val (pe_callB call_isi (by rfl) B.isinstance boot_isinstance (pa_cons (pv 1) (pa_cons (pe_bltn (v := .ty "tuple") (by rfl) B.tuple boot_tuple rfl) pa_nil))))) (pss_one (ps_ret pe_non)) pss_nil)
      (pss_cons (ps_set (i := 2) sc.nd rfl (Or.inl rfl) pe_int)
      (pss_cons (ps_set (i := 3) sc.nd rfl (Or.inl rfl) pe_str)
      (pss_cons (ps_for PassesOwn.never rfl (pi_tup (pv 1)) (pg_name (i := 4) sc.nd rfl (Or.inl rfl))
        (pss_cons (ps_if (PW.pt (pw_or (pt_not (pt_val (pe_callB call_isi (by rfl) B.isinstance boot_isinstance (pa_cons (pv 4) (pa_cons (pe_bltn (v := .ty "str") (by rfl) B.str boot_str rfl) pa_nil)))))
          (pw_or (pt_cmpR op_le_str (pv 4) (pv 3) (nomark _)) (pw_or1 (pt_cmp (pc_dnotin hu (pv 4) (pe_fld (pv 0) rfl))))))) (pss_one (ps_ret pe_non)) pss_nil)
        (pss_cons (ps_aug (i := 2) sc.nd rfl (Or.inl rfl) (pe_dget hu (pe_fld (pv 0) rfl) (pv 4) (fun _ _ => rfl)) ip_or)
        (pss_one (ps_set (i := 3) sc.nd rfl (Or.inl rfl) (pv 4))))))
      (pss_one (ps_ret (pe_ifExp (pt_truth (pe_op op_and (pe_op op_and (pv 2) (pe_op op_shr (pv 2) pe_int)) (pe_fld (pv 0) rfl)) (by intro _; rfl)) pe_non (pv 2))))))), ?_⟩
    refine ⟨_, rfl, ?_⟩
    refine ⟨.ref a, .ty "tuple", _, _, true, rfl, .ty "tuple", tup_ty cl.1, kit_ty (by decide +kernel), ?_⟩
    refine ⟨_, rfl, iteF ?_⟩
    refine ⟨_, rfl, a, rfl, ⟨_, cl.1⟩, ?_⟩
    refine for_tup (xs := ys.map V.str) (fun i σ H2 => H2 = H ∧ ∃ (last : Str) (o : Option V), σ = [some (.ref m), some (.ref a), some (.int ((maskS ns (ys.take i) : Nat) : Int)), some (.str last), o] ∧ walkC last ((ys.drop i).map V.str) = true)
      ⟨rfl, "", none, rfl, wk⟩ (fun i σ H2 hi h => by rw [h.1]; exact cl.1) ?_ ?_
    · rintro i x σ H2 hx ⟨rfl, last, o, rfl, ew⟩
      obtain ⟨y, hy, rfl⟩ : ∃ y, ys[i]? = some y ∧ V.str y = x := by
        rw [List.getElem?_map] at hx
        exact Option.map_eq_some_iff.mp hx
      have my := List.mem_of_getElem? hy
      have hi : i < ys.length := (List.getElem?_eq_some_iff.mp hy).1
      have ed : ys.drop i = y :: ys.drop (i + 1) := by
        rw [List.drop_eq_getElem_cons hi]
        congr 1
        exact (List.getElem?_eq_some_iff.mp hy).2
      rw [ed] at ew
      have ez : (litS y && ltS last y && walkC y ((ys.drop (i + 1)).map V.str)) = true := ew
      rw [Bool.and_eq_true, Bool.and_eq_true] at ez
      obtain ⟨⟨_, e2⟩, e3⟩ := ez
      have g : DGet H2 db (.str y) (some (.int ((litB ns y : Nat) : Int))) := by
        have q := DGet.k (k := Sum.inr y) b1
        rw [b3, if_pos (nam y my)] at q
        exact q
      refine ⟨_, rfl, ?_⟩
      refine ⟨.str y, .ty "str", _, _, true, rfl, .ty "str", .base (.str y), kit_ty (by decide +kernel), ?_⟩
      refine ⟨_, rfl, iteF ?_⟩
      refine ⟨_, rfl, _, rfl, y, last, rfl, rfl, _, rfl, ?_⟩
      have e2' : (!decide (last.cps.toList < y.cps.toList)) = false := by
        have z : decide (last.cps.toList < y.cps.toList) = true := e2
        rw [z]
        rfl
      rw [e2']
      refine iteF ?_
      refine ⟨_, rfl, _, rfl, m, M, dx, _, _, rfl, hm, T.cl, T.nB, fm_bits _ _ _ _, db, _, rfl, g, _, rfl, iteF ?_⟩
      refine ⟨_, rfl, _, rfl, m, M, dx, _, _, rfl, hm, T.cl, T.nB, fm_bits _ _ _ _, _, rfl, db, _, rfl, g, _, _, rfl, rfl, ?_⟩
      refine ⟨_, rfl, rfl, y, some (.str y), ?_, e3⟩
      have e : Builtin.bitOr ((maskS ns (ys.take i) : Nat) : Int) ((litB ns y : Nat) : Int) = ((maskS ns (ys.take (i + 1)) : Nat) : Int) := by rw [or_nat, ← mask_snoc, ← take_snoc hy]
      rw [← e]
      rfl
    · rintro σ H2 ⟨rfl, last, o, rfl, _⟩
      rw [List.length_map, List.take_length]
      have e1 : (((maskS ns ys : Nat) : Int) / 2 ^ (1 : Int).toNat) = ((maskS ns ys / 2 : Nat) : Int) := by
        show ((maskS ns ys : Nat) : Int) / 2 ^ 1 = _
        omega
      refine ⟨_, rfl, _, rfl, _, _, rfl, rfl, (show (0 : Int) ≤ 1 by decide), _, ((maskS ns ys / 2 : Nat) : Int), rfl, congrArg V.int e1, ?_⟩
      refine ⟨_, rfl, m, M, dx, _, _, rfl, hm, T.cl, T.nE, fm_evens _ _ _ _, ((maskS ns ys &&& (maskS ns ys / 2) : Nat) : Int), _, congrArg V.int (and_nat _ _), rfl, ?_⟩
      refine ⟨((((maskS ns ys &&& (maskS ns ys / 2)) &&& evenS ns.length : Nat) : Int) != 0), ?_, ?_⟩
      · rw [← and_nat]
        rfl
      · rw [no_clash lo nc]
        exact iteF ⟨_, rfl, k _⟩
/-! ### __init__ -/
def spMInit (M : Addr) : Sp := fun vs H Q _ => ∃ (p dx tr tn : Addr) (qs : List Rs) (ns : List Str), vs = [.ref p, .ref tr, .ref tn] ∧ H p = some (.ins M dx []) ∧ H tr = some (.tup (refs qs)) ∧ RowsAt H qs ∧ H tn = some (.tup (ns.map V.str)) ∧ ns.Nodup ∧ (∀ x ∈ ns, lowZ x = true) ∧
  (∀ q ∈ qs, ∀ y ∈ q.2, LitOf ns y) ∧ ns.length ≤ 30 ∧ qs.length ≤ 3000 ∧ ∀ H', Fr p H H' → MarksAt M H' p (qs.map (·.2)) ns → Q .non H'
theorem sc_minit : FnScope ["self", "rows", "names", "at", "name", "high", "row"] ["self", "rows", "names"] (defScope sMInit) := ⟨rfl, rfl, rfl, by decide +kernel, rfl, by decide +kernel, by decide +kernel⟩
theorem ok_minit {f M : Addr} {fd : FuncData} (G : Fun K "__init__" "Marks.__init__" sMInit f fd) (hE : mg "enumerate" = none) (T : TxtM K mg M) (FO : FN P w K mg base "opposite" 2 ["literal"] spOpp) (MB : MT P w K mg base M "bits_of" 1 ["self", "literals"] (spMBits K M)) (MC : MT P w K mg base M "contraries" 1 ["self", "bits"] (spMContr M)) :
    FnOk P w K mg base CX0 3 f fd ["self", "rows", "names"] (spMInit M) := by
  have sc := sc_minit
  obtain ⟨fO, dO, mO, kO, OO, bO⟩ := FO
  obtain ⟨fB, dB, mB, OB, bB⟩ := MB
  obtain ⟨fC, dC, mC, OC, bC⟩ := MC
  refine G.ok sc (fun vs H Q E h => ?_) (fun cdv A outer s H vs Q E hr h => ?_)
  · obtain ⟨_, _, _, _, _, _, rfl, _⟩ := h
    rfl
  · obtain ⟨p, dx, tr, tn, qs, ns, rfl, hp, htr, hrow, htn, nd, lo, lits, few, few2, k⟩ := h
    have hu := hu_of hr
    have hr1 : Room 1 _ := hr.mono (by decide)
    have ntr : tr ≠ p := ne_of htr hp (by intro z; cases z)
    have ntn : tn ≠ p := ne_of htn hp (by intro z; cases z)
    refine ⟨_, pss_cons (ps_fld (pv 0) pe_dnewK rfl) (pss_cons (ps_fld (pv 0) pe_dnewK rfl) (pss_cons (ps_fld (pv 0) pe_dnewT rfl) (pss_cons (ps_fld (pv 0) pe_int rfl)
      (pss_cons (ps_for PassesOwn.never rfl (MyEn.pi_enumT (by rfl) hE (pa_cons (pv 2) pa_nil)) (pg_tup (by rfl) (pgs_cons (pg_name (i := 3) sc.nd rfl (Or.inl rfl)) (pgs_cons (pg_name (i := 4) sc.nd rfl (Or.inl rfl)) pgs_nil)))
        (pss_cons (ps_set (i := 5) sc.nd rfl (Or.inl rfl) (pe_op op_shl pe_int (pe_op op_mul pe_int (pv 3))))
        (pss_cons (ps_dput hu (pe_fld (pv 0) rfl) (pv 4) (pv 5) rfl)
        (pss_cons (ps_dput hu (pe_fld (pv 0) rfl) (pe_call OO hr rfl mO kO bO .nil pass0 (pa_cons (pv 4) pa_nil)) (pe_op op_mul pe_int (pv 5)) rfl)
        (pss_cons (ps_dput hu (pe_fld (pv 0) rfl) (pv 4) (pe_tup (pa_cons (pv 5) (pa_cons (pe_op op_mul pe_int (pv 5)) pa_nil))) rfl)
        (pss_one (ps_fldaug (pv 0) (pv 5) in_or)))))))
      (pss_one (ps_for PassesOwn.never rfl (pi_tup (pv 1)) (pg_name (i := 6) sc.nd rfl (Or.inl rfl))
        (pss_one (ps_dput hu (pe_fld (pv 0) rfl) (pv 6) (pe_meth (pv 0) T.cl mC OC hr1 bC .nil pass0 (pa_cons (pe_meth (pv 0) T.cl mB OB hr1 bB .nil pass0 (pa_cons (pv 6) pa_nil)) pa_nil)) rfl)))))))), ?_⟩
    refine fun db nb => ⟨_, rfl, p, M, dx, [], rfl, (upd_ne (ne_of_none hp nb)).trans hp, T.cl, T.nB, (by decide), ?_⟩
    obtain ⟨p1, d1, n1, f1⟩ := new_fld (f := "bits") (o := .dK []) hp nb
    generalize upd (upd H db (.dK [])) p (.ins M dx (putF "bits" (.ref db) [])) = H1 at *
    refine fun ds ns1 => ⟨_, rfl, p, M, dx, _, rfl, (upd_ne (ne_of_none p1 ns1)).trans p1, T.cl, T.nS, (by show 1 < 1000; decide), ?_⟩
    obtain ⟨p2, d2, n2, f2⟩ := new_fld (f := "sides") (o := .dK []) p1 ns1
    have hds : ds ≠ db := fun z => by
      rw [z, d1] at ns1
      cases ns1
    have d12 := f2 _ _ d1 n1
    generalize upd (upd H1 ds (.dK [])) p (.ins M dx (putF "sides" (.ref ds) (putF "bits" (.ref db) []))) = H2 at *
    refine fun dr nr => ⟨_, rfl, p, M, dx, _, rfl, (upd_ne (ne_of_none p2 nr)).trans p2, T.cl, T.nK, (by show 2 < 1000; decide), ?_⟩
    obtain ⟨p3, d3, n3, f3⟩ := new_fld (f := "breaking") (o := .dT []) p2 nr
    have d13 := f3 _ _ d12 n1
    have d23 := f3 _ _ d2 n2
    generalize upd (upd H2 dr (.dT [])) p (.ins M dx (putF "breaking" (.ref dr) (putF "sides" (.ref ds) (putF "bits" (.ref db) [])))) = H3 at *
    refine ⟨_, rfl, p, M, dx, _, rfl, p3, T.cl, T.nE, (by show 3 < 1000; decide), ?_⟩
    rw [fm_made]
    have fr0 : Fr p H H3 := fun b o e h => f3 _ _ (f2 _ _ (f1 _ _ e h) h) h
    have fr1 : Fr p H H1 := f1
    have fr2 : Fr p H H2 := fun b o e h => f2 _ _ (f1 _ _ e h) h
    have z1 : H db = none := nb
    have z2 : H ds = none := fr1.new ⟨_, p1⟩ ns1
    have z3 : H dr = none := fr2.new ⟨_, p2⟩ nr
    have hp4 : upd H3 p (.ins M dx (fldsM db ds dr 0)) p = some (.ins M dx (fldsM db ds dr 0)) := upd_same
    have dat0 : MkDat (upd H3 p (.ins M dx (fldsM db ds dr 0))) ns (qs.map (·.2)) 0 0 db ds dr := by
      refine ⟨⟨[], (upd_ne n1).trans d13, Nat.zero_le _, fun y => by simp [valV]⟩, ⟨[], (upd_ne n2).trans d23, Nat.zero_le _, fun x hx => by simp at hx, fun x _ => rfl⟩, ⟨[], (upd_ne n3).trans d3, Nat.zero_le _, fun r => by simp [valV]⟩⟩
    have fr4 : Fr p H (upd H3 p (.ins M dx (fldsM db ds dr 0))) := fr0.self
    generalize upd H3 p (.ins M dx (fldsM db ds dr 0)) = H4 at *
    refine ⟨_, rfl, tn, _, rfl, SqT.of (fr4 _ _ htn ntn), ?_⟩
    refine for_it MyEn.walk_enumT (fun i σ H' => ∃ o3 o4 o5 : Option V, σ = [some (.ref p), some (.ref tr), some (.ref tn), o3, o4, o5, none] ∧ Fr p H H' ∧ H' p = some (.ins M dx (fldsM db ds dr ((evenS i : Nat) : Int))) ∧ MkDat H' ns (qs.map (·.2)) i 0 db ds dr)
      ⟨none, none, none, rfl, fr4, hp4, dat0⟩ (fun i σ H' _ h => by obtain ⟨_, _, _, _, fr, _⟩ := h; exact SqT.of (fr _ _ htn ntn)) ?_ ?_
    · rintro i v σ H5 H6 hi ⟨o3, o4, o5, rfl, fr, hp5, dt⟩ y
      obtain ⟨t0, x, z, rfl, nT, rfl, hx, hz⟩ := y
      obtain rfl : V.int ((i : Nat) : Int) = x := Option.some.inj hx
      obtain ⟨a, ha, rfl⟩ : ∃ a, ns[i]? = some a ∧ V.str a = z := by
        have hz : (ns.map V.str)[i]? = some z := hz
        rw [List.getElem?_map] at hz
        exact Option.map_eq_some_iff.mp hz
      have ma := List.mem_of_getElem? ha
      rw [List.length_map] at hi
      have sm : Same H5 (upd H5 t0 (.tup [.int ((i : Nat) : Int), .str a])) := same_new nT
      refine ⟨t0, _, rfl, SqT.of upd_same, rfl, _, _, rfl, _, _, rfl, rfl, ?_⟩
      obtain ⟨⟨kb, b1, b2, b3⟩, ⟨ks, s1, s2, s3, s4⟩, ⟨kr, r1, r2, r3⟩⟩ := dt.same sm
      have hp6 := sm _ _ hp5
      have fr6 : Fr p H (upd H5 t0 (.tup [.int ((i : Nat) : Int), .str a])) := fun b o e h => sm _ _ (fr b o e h)
      generalize upd H5 t0 (.tup [.int ((i : Nat) : Int), .str a]) = H6 at *
      have eh : (1 * 2 ^ ((2 : Int) * ((i : Nat) : Int)).toNat : Int) = ((2 ^ (2 * i) : Nat) : Int) := by
        have e0 : ((2 : Int) * ((i : Nat) : Int)).toNat = 2 * i := by omega
        rw [e0, Int.one_mul]
        simp
      have el : (2 * ((2 ^ (2 * i) : Nat) : Int) : Int) = ((2 ^ (2 * i + 1) : Nat) : Int) := by
        rw [Nat.pow_succ]
        simp [Int.mul_comm]
      refine ⟨_, rfl, _, _, rfl, rfl, .inl ⟨by decide, by decide⟩, _, _, rfl, rfl, ⟨by omega, by omega, by decide⟩, ?_⟩
      dsimp only
      rw [eh]
      have la := lo a ma
      have lla := low_lit3 la
      have lsh := lit_short lla.1
      -- self.bits[name] = high
      refine ⟨_, rfl, _, rfl, p, M, dx, _, _, rfl, hp6, T.cl, T.nB, fm_bits _ _ _ _, _, rfl, db, _, rfl, DPut.k (k := Sum.inr a) b1 (by rw [sizeLine_eq]; omega), ?_⟩
      have zb : H db = none := z1
      have npb : p ≠ db := (ne_of b1 hp6 (by intro z; cases z)).symm
      have nbs : db ≠ ds := hds.symm
      have hp7 := (upd_ne (o := .dK (putK kb (Sum.inr a) (.int ((2 ^ (2 * i) : Nat) : Int)))) npb).trans hp6
      have fr7 := fr6.put (o := .dK (putK kb (Sum.inr a) (.int ((2 ^ (2 * i) : Nat) : Int)))) zb
      have b7 := upd_same (H := H6) (a := db) (o := .dK (putK kb (Sum.inr a) (.int ((2 ^ (2 * i) : Nat) : Int))))
      have ls7 : ∀ b o, H6 b = some o → b ≠ db → (upd H6 db (.dK (putK kb (Sum.inr a) (.int ((2 ^ (2 * i) : Nat) : Int))))) b = some o := fun b o e h => (upd_ne h).trans e
      generalize upd H6 db (.dK (putK kb (Sum.inr a) (.int ((2 ^ (2 * i) : Nat) : Int)))) = H7 at *
      -- self.bits[opposite(name)] = 2 * high
      have l1 := len_putK kb (Sum.inr a) (.int ((2 ^ (2 * i) : Nat) : Int))
      refine ⟨_, rfl, _, _, rfl, rfl, .inl ⟨by decide, by decide⟩, ?_⟩
      dsimp only
      rw [el]
      refine ⟨_, rfl, p, M, dx, _, _, rfl, hp7, T.cl, T.nB, fm_bits _ _ _ _, _, rfl, a, rfl, by rw [sizeLine_eq]; omega, db, _, rfl, DPut.k (k := Sum.inr (oppS a)) b7 (by rw [sizeLine_eq]; omega), ?_⟩
      have hp8 := (upd_ne (o := .dK (putK (putK kb (Sum.inr a) (.int ((2 ^ (2 * i) : Nat) : Int))) (Sum.inr (oppS a)) (.int ((2 ^ (2 * i + 1) : Nat) : Int)))) npb).trans hp7
      have fr8 := fr7.put (o := .dK (putK (putK kb (Sum.inr a) (.int ((2 ^ (2 * i) : Nat) : Int))) (Sum.inr (oppS a)) (.int ((2 ^ (2 * i + 1) : Nat) : Int)))) zb
      have b8 := upd_same (H := H7) (a := db) (o := .dK (putK (putK kb (Sum.inr a) (.int ((2 ^ (2 * i) : Nat) : Int))) (Sum.inr (oppS a)) (.int ((2 ^ (2 * i + 1) : Nat) : Int))))
      have ls8 : ∀ b o, H6 b = some o → b ≠ db → (upd H7 db (.dK (putK (putK kb (Sum.inr a) (.int ((2 ^ (2 * i) : Nat) : Int))) (Sum.inr (oppS a)) (.int ((2 ^ (2 * i + 1) : Nat) : Int))))) b = some o := fun b o e h => (upd_ne h).trans (ls7 b o e h)
      generalize upd H7 db (.dK (putK (putK kb (Sum.inr a) (.int ((2 ^ (2 * i) : Nat) : Int))) (Sum.inr (oppS a)) (.int ((2 ^ (2 * i + 1) : Nat) : Int)))) = H8 at *
      -- self.sides[name] = (high, 2 * high)
      refine ⟨_, rfl, _, rfl, _, _, rfl, rfl, .inl ⟨by decide, by decide⟩, (by show 2 ≤ sizeLine; decide), fun t nt => ?_⟩
      dsimp only at nt ⊢
      rw [el]
      have sm9 := same_new (o := .tup [.int ((2 ^ (2 * i) : Nat) : Int), .int ((2 ^ (2 * i + 1) : Nat) : Int)]) nt
      have t9 := upd_same (H := H8) (a := t) (o := .tup [.int ((2 ^ (2 * i) : Nat) : Int), .int ((2 ^ (2 * i + 1) : Nat) : Int)])
      generalize upd H8 t (.tup [.int ((2 ^ (2 * i) : Nat) : Int), .int ((2 ^ (2 * i + 1) : Nat) : Int)]) = H9 at *
      have hp9 := sm9 _ _ hp8
      have s9 := sm9 _ _ (ls8 _ _ s1 hds)
      have fr9 : Fr p H H9 := fun b o e h => sm9 _ _ (fr8 b o e h)
      refine ⟨_, rfl, p, M, dx, _, _, rfl, hp9, T.cl, T.nS, fm_sides _ _ _ _, _, rfl, ds, _, rfl, DPut.k (k := Sum.inr a) s9 (by rw [sizeLine_eq]; omega), ?_⟩
      have nps : p ≠ ds := (ne_of s9 hp9 (by intro z; cases z)).symm
      have hp10 := (upd_ne (o := .dK (putK ks (Sum.inr a) (.ref t))) nps).trans hp9
      have fr10 := fr9.put (o := .dK (putK ks (Sum.inr a) (.ref t))) z2
      have s10 := upd_same (H := H9) (a := ds) (o := .dK (putK ks (Sum.inr a) (.ref t)))
      have ls10 : ∀ b o, H9 b = some o → b ≠ ds → (upd H9 ds (.dK (putK ks (Sum.inr a) (.ref t)))) b = some o := fun b o e h => (upd_ne h).trans e
      generalize upd H9 ds (.dK (putK ks (Sum.inr a) (.ref t))) = H10 at *
      -- self.evens |= high
      refine ⟨_, rfl, p, M, dx, _, _, rfl, hp10, T.cl, T.nE, fm_evens _ _ _ _, _, rfl, _, _, rfl, rfl, _, _, hp10, (by show 4 < 1000; decide), ?_⟩
      have ev : Builtin.bitOr ((evenS i : Nat) : Int) ((2 ^ (2 * i) : Nat) : Int) = ((evenS (i + 1) : Nat) : Int) := by rw [or_nat, ← even_succ]
      have up : ∀ b o, H10 b = some o → b ≠ p → (upd H10 p (.ins M dx (putF "evens" (.int (Builtin.bitOr ((evenS i : Nat) : Int) ((2 ^ (2 * i) : Nat) : Int))) (fldsM db ds dr ((evenS i : Nat) : Int))))) b = some o := fun b o e h => (upd_ne h).trans e
      have tups : ∀ b l, H6 b = some (.tup l) → upd H10 p (.ins M dx (putF "evens" (.int (Builtin.bitOr ((evenS i : Nat) : Int) ((2 ^ (2 * i) : Nat) : Int))) (fldsM db ds dr ((evenS i : Nat) : Int)))) b = some (.tup l) := fun b l e => by
        have e8 := ls8 _ _ e (ne_of e b1 (by intro z; cases z))
        have e9 := sm9 _ _ e8
        have e10 := ls10 _ _ e9 (ne_of e9 s9 (by intro z; cases z))
        exact up _ _ e10 (ne_of e10 hp10 (by intro z; cases z))
      refine ⟨_, _, _, rfl, fr10.self, by rw [upd_same, fm_put, ev], ?_⟩
      have t10 := ls10 _ _ t9 (ne_of t9 s9 (by intro z; cases z))
      have r8 := ls8 _ _ r1 (ne_of r1 b1 (by intro z; cases z))
      have r9 := sm9 _ _ r8
      have r10 := ls10 _ _ r9 (ne_of r9 s9 (by intro z; cases z))
      refine MkDat.name (H := H10) nd lo ha b2 b3 s2 (fun x hx => ?_) s4 ⟨kr, up _ _ r10 (ne_of r10 hp10 (by intro z; cases z)), r2, r3⟩ (up _ _ (ls10 _ _ (sm9 _ _ b8) nbs) npb.symm) (up _ _ s10 nps.symm) (up _ _ t10 (ne_of t10 hp10 (by intro z; cases z)))
      obtain ⟨t, e1, e2⟩ := s3 x hx
      exact ⟨t, e1, tups _ _ e2⟩
    · rintro σ H5 ⟨o3, o4, o5, rfl, fr, hp5, dt⟩
      rw [List.length_map] at hp5 dt
      refine ⟨_, rfl, tr, rfl, ⟨_, SqT.of (fr _ _ htr ntr)⟩, ?_⟩
      refine for_tup (xs := refs qs) (fun j σ H' => ∃ o6 : Option V, σ = [some (.ref p), some (.ref tr), some (.ref tn), o3, o4, o5, o6] ∧ Fr p H H' ∧ H' p = some (.ins M dx (fldsM db ds dr ((evenS ns.length : Nat) : Int))) ∧ MkDat H' ns (qs.map (·.2)) ns.length j db ds dr)
        ⟨none, rfl, fr, hp5, dt⟩ (fun j σ H' _ h => by obtain ⟨_, _, fr, _⟩ := h; exact SqT.of (fr _ _ htr ntr)) ?_ ?_
      · rintro j x σ H6 hx ⟨o6, rfl, fr, hp6, dt⟩
        obtain ⟨q, hq, rfl⟩ : ∃ q, qs[j]? = some q ∧ V.ref q.1 = x := by
          rw [refs, List.getElem?_map] at hx
          exact Option.map_eq_some_iff.mp hx
        have mq := List.mem_of_getElem? hq
        have nq : q.1 ≠ p := ne_of (hrow q mq) hp (by intro z; cases z)
        have hq6 := fr _ _ (hrow q mq) nq
        obtain ⟨⟨kb, b1, b2, b3⟩, ⟨ks, s1, s2, s3, s4⟩, ⟨kr, r1, r2, r3⟩⟩ := dt
        have hj : j < qs.length := (List.getElem?_eq_some_iff.mp hq).1
        have hv : ∀ y ∈ q.2, valV kb (Sum.inr y) = some (.int ((litB ns y : Nat) : Int)) := fun y hy => by
          rw [b3, List.take_length, if_pos (lits q mq y hy).2]
        have none4 : ∀ {m : Str}, ¬ m = "bits" → ¬ m = "sides" → ¬ m = "breaking" → ¬ m = "evens" → (fldsM db ds dr ((evenS ns.length : Nat) : Int)).lookup m = none := fun a b c d => fm_none _ _ _ _ a b c d
        refine ⟨_, rfl, p, dx, _, rfl, hp6, none4 (by decide +kernel) (by decide +kernel) (by decide +kernel) (by decide +kernel), _, rfl, p, dx, _, rfl, hp6, none4 (by decide +kernel) (by decide +kernel) (by decide +kernel) (by decide +kernel), _, rfl,
          p, q.1, dx, db, ds, dr, _, kb, ns, q.2, rfl, hp6, b1, hv, SqT.of hq6, p, dx, db, ds, dr, ns.length, maskS ns q.2, rfl, hp6, few, ?_⟩
        dsimp only
        rw [contr_mask (lits q mq)]
        refine ⟨_, rfl, p, M, dx, _, _, rfl, hp6, T.cl, T.nK, fm_breaking _ _ _ _, _, rfl, dr, _, rfl, DPut.t (k := q.2.map Sum.inr) r1 (by rw [hq6, List.map_map]; rfl) (by rw [sizeLine_eq]; omega), ?_⟩
        have npr : p ≠ dr := (ne_of r1 hp6 (by intro z; cases z)).symm
        obtain ⟨k1, k2⟩ := kr_row (ns := ns) (rows := qs.map (·.2)) (r := q.2) (by rw [List.getElem?_map, hq]; rfl) r2 r3
        have ls : ∀ b o, H6 b = some o → b ≠ dr → upd H6 dr (.dT (putK kr (q.2.map Sum.inr) (.int ((maskS ns (q.2.map oppS) : Nat) : Int)))) b = some o := fun b o e h => (upd_ne h).trans e
        refine ⟨_, rfl, fr.put z3, ls _ _ hp6 npr, ⟨kb, ls _ _ b1 (ne_of b1 r1 (by intro z; cases z)), b2, b3⟩, ⟨ks, ls _ _ s1 (ne_of s1 r1 (by intro z; cases z)), s2, fun x hx => ?_, s4⟩, ⟨_, upd_same, k1, k2⟩⟩
        obtain ⟨t, e1, e2⟩ := s3 x hx
        exact ⟨t, e1, ls _ _ e2 (ne_of e2 r1 (by intro z; cases z))⟩
      · rintro σ H6 ⟨o6, rfl, fr, hp6, dt⟩
        refine k H6 fr ⟨dx, db, ds, dr, hp6, ?_⟩
        rw [List.length_map]
        rw [show (refs qs).length = qs.length by rw [refs, List.length_map]] at dt
        exact dt
end
end My
end

section
set_option Elab.async false
set_option linter.all false
set_option maxRecDepth 100000
set_option maxHeartbeats 4000000
namespace My
local macro_rules | `(tactic| walk_at "go") => `(tactic| (repeat (first
  | (refine ⟨_, rfl, ?_⟩)
  | (refine ⟨_, _, rfl, rfl, ?_⟩)
  | (refine ⟨_, _, rfl, ?_⟩)
  | (refine ⟨rfl, ?_⟩)
  | (refine Or.inl ⟨_, rfl, ?_⟩)
  | (refine ⟨_, _, _, _, rfl, rfl, L2.SqL.of (by first | assumption | exact L2.upd_same), rfl, ?_⟩)
  | (refine ⟨_, _, _, _, rfl, rfl, (by first | assumption | exact L2.upd_same), rfl, ?_⟩)
  | (refine And.intro (by first | omega | decide | (unfold L2.CPow; decide) | (unfold L2.CMul; omega) | (unfold L2.CDiv; omega)) ?_))))
open PySem PySem.Spec PyProof.Rows L2 TL MyF MyS MyW RZ MyR
/-! ### class Book: its data -/
abbrev cBook : Stmt := top 19
abbrev sBInit : Stmt := inClass cBook 0
abbrev sBCl : Stmt := inClass cBook 1
abbrev sBVar : Stmt := inClass cBook 2
abbrev sBMarks : Stmt := inClass cBook 3
abbrev sBEq : Stmt := inClass cBook 5
def fldsB (tr tn : Addr) (mv tv : V) : List (Str × V) := [("_rows", .ref tr), ("_names", .ref tn), ("_marks", mv), ("_table", tv)]
theorem fb_rows (tr tn : Addr) (mv tv : V) : (fldsB tr tn mv tv).lookup ("_rows" : Str) = some (.ref tr) := by
  unfold fldsB
  rw [lookup_put, if_pos rfl]
theorem fb_names (tr tn : Addr) (mv tv : V) : (fldsB tr tn mv tv).lookup ("_names" : Str) = some (.ref tn) := by
  unfold fldsB
  rw [lookup_put, if_neg (by decide +kernel), lookup_put, if_pos rfl]
theorem fb_marks (tr tn : Addr) (mv tv : V) : (fldsB tr tn mv tv).lookup ("_marks" : Str) = some mv := by
  unfold fldsB
  rw [lookup_put, if_neg (by decide +kernel), lookup_put, if_neg (by decide +kernel), lookup_put, if_pos rfl]
theorem fb_none (tr tn : Addr) (mv tv : V) {m : Str} (h1 : ¬ m = "_rows") (h2 : ¬ m = "_names") (h3 : ¬ m = "_marks") (h4 : ¬ m = "_table") : (fldsB tr tn mv tv).lookup m = none := by
  unfold fldsB
  rw [lookup_put, if_neg h1, lookup_put, if_neg h2, lookup_put, if_neg h3, lookup_put, if_neg h4]
  rfl
theorem fb_put (tr tn : Addr) (mv tv z : V) : putF "_marks" z (fldsB tr tn mv tv) = fldsB tr tn z tv := by
  unfold fldsB
  rw [putF, if_neg (by decide +kernel), putF, if_neg (by decide +kernel), putF, if_pos rfl]
theorem fb_made (tr tn : Addr) (mv tv : V) : putF "_table" tv (putF "_marks" mv (putF "_names" (.ref tn) (putF "_rows" (.ref tr) []))) = fldsB tr tn mv tv := by
  unfold fldsB
  have e1 : putF "_rows" (.ref tr) [] = [(("_rows" : Str), V.ref tr)] := rfl
  rw [e1, putF, if_neg (by decide +kernel), putF, putF, if_neg (by decide +kernel), putF, if_neg (by decide +kernel), putF, putF, if_neg (by decide +kernel), putF, if_neg (by decide +kernel), putF, if_neg (by decide +kernel), putF]
/-- what is known of a book's rows and names -/
structure GoodB (rows : List (List Str)) (ns : List Str) : Prop where
  nd : ns.Nodup
  lo : ∀ x ∈ ns, lowZ x = true
  lits : ∀ r ∈ rows, ∀ y ∈ r, LitOf ns y
  few : ns.length ≤ 30
  few2 : rows.length ≤ 3000
/-- a Book stands at b: its clauses are rows, its variables ns; what it keeps is right -/
def BookAt (C M : Addr) (H : Hp) (b : Addr) (rows : List (List Str)) (ns : List Str) : Prop := ∃ (dx tr tn : Addr) (qs : List Rs) (mv tv : V), H b = some (.ins C dx (fldsB tr tn mv tv)) ∧ H tr = some (.tup (refs qs)) ∧ RowsAt H qs ∧ qs.map (·.2) = rows ∧ H tn = some (.tup (ns.map V.str)) ∧
  (mv = .non ∨ ∃ m, mv = .ref m ∧ MarksAt M H m rows ns) ∧ GoodB rows ns
theorem BookAt.same {C M : Addr} {H H' : Hp} {b : Addr} {rows : List (List Str)} {ns : List Str} (h : BookAt C M H b rows ns) (s : Same H H') : BookAt C M H' b rows ns := by
  obtain ⟨dx, tr, tn, qs, mv, tv, h1, h2, h3, h4, h5, h6, h7⟩ := h
  exact ⟨dx, tr, tn, qs, mv, tv, s _ _ h1, s _ _ h2, rows_same h3 s, h4, s _ _ h5, h6.imp id fun ⟨m, e, k⟩ => ⟨m, e, k.same s⟩, h7⟩
theorem but_dat {q : Addr} {H H' : Hp} {l : List V} {ns : List Str} {rows : List (List Str)} {i j : Nat} {db ds dr : Addr} (h : MkDat H ns rows i j db ds dr) (s : But q H H') (hq : H q = some (.lst l)) : MkDat H' ns rows i j db ds dr := by
  obtain ⟨⟨kb, b1, b2⟩, ⟨ks, s1, s2, s3, s4⟩, ⟨kr, r1, r2⟩⟩ := h
  exact ⟨⟨kb, s _ _ b1 (ne_of b1 hq (by intro z; cases z)), b2⟩, ⟨ks, s _ _ s1 (ne_of s1 hq (by intro z; cases z)), s2, fun x hx => let ⟨t, e1, e2⟩ := s3 x hx; ⟨t, e1, s _ _ e2 (ne_of e2 hq (by intro z; cases z))⟩, s4⟩, ⟨kr, s _ _ r1 (ne_of r1 hq (by intro z; cases z)), r2⟩⟩
/-- a list that isn't part of a book's data -/
theorem BookAt.but {C M q : Addr} {H H' : Hp} {b : Addr} {rows : List (List Str)} {ns : List Str} {l : List V} (h : BookAt C M H b rows ns) (s : But q H H') (hq : H q = some (.lst l)) : BookAt C M H' b rows ns := by
  obtain ⟨dx, tr, tn, qs, mv, tv, h1, h2, h3, h4, h5, h6, h7⟩ := h
  refine ⟨dx, tr, tn, qs, mv, tv, s _ _ h1 (ne_of h1 hq (by intro z; cases z)), s _ _ h2 (ne_of h2 hq (by intro z; cases z)), rows_but h3 s hq, h4, s _ _ h5 (ne_of h5 hq (by intro z; cases z)), h6.imp id ?_, h7⟩
  rintro ⟨m, e, dx, db, ds, dr, k1, k2⟩
  exact ⟨m, e, dx, db, ds, dr, s _ _ k1 (ne_of k1 hq (by intro z; cases z)), but_dat k2 s hq⟩
/-- all but books stays, books stay books of the same rows -/
structure Keep (C M : Addr) (H H' : Hp) : Prop where
  old : ∀ p o, H p = some o → (∀ dx fs, o ≠ .ins C dx fs) → H' p = some o
  ins : ∀ p dx fs, H p = some (.ins C dx fs) → ∃ fs', H' p = some (.ins C dx fs')
  book : ∀ b rows ns, BookAt C M H b rows ns → BookAt C M H' b rows ns
theorem Keep.of {C M : Addr} {H H' : Hp} (s : Same H H') : Keep C M H H' := ⟨fun p o e _ => s p o e, fun p dx fs e => ⟨fs, s _ _ e⟩, fun b rows ns h => h.same s⟩
theorem Keep.trans {C M : Addr} {H H1 H2 : Hp} (a : Keep C M H H1) (b : Keep C M H1 H2) : Keep C M H H2 :=
  ⟨fun p o e n => b.old p o (a.old p o e n) n, fun p dx fs e => let ⟨fs1, e1⟩ := a.ins p dx fs e; b.ins p dx fs1 e1, fun x rows ns h => b.book x rows ns (a.book x rows ns h)⟩
theorem Keep.free {C M : Addr} {H H1 : Hp} (a : Keep C M H H1) {p : Addr} (n : H1 p = none) : H p = none := by
  cases e : H p with
  | none => rfl
  | some o =>
    by_cases z : ∃ dx fs, o = .ins C dx fs
    · obtain ⟨dx, fs, rfl⟩ := z
      obtain ⟨fs', h⟩ := a.ins p dx fs e
      rw [n] at h
      cases h
    · have h := a.old p o e fun dx fs q => z ⟨dx, fs, q⟩
      rw [n] at h
      cases h
theorem Keep.tup {C M : Addr} {H H1 : Hp} (a : Keep C M H H1) {p : Addr} {l : List V} (e : H p = some (.tup l)) : H1 p = some (.tup l) := a.old p _ e (by intro dx fs z; cases z)
theorem Keep.lst {C M : Addr} {H H1 : Hp} (a : Keep C M H H1) {p : Addr} {l : List V} (e : H p = some (.lst l)) : H1 p = some (.lst l) := a.old p _ e (by intro dx fs z; cases z)
theorem Keep.rows {C M : Addr} {H H1 : Hp} (a : Keep C M H H1) {qs : List Rs} (h : RowsAt H qs) : RowsAt H1 qs := fun q hq => a.tup (h q hq)
theorem Keep.tree {C M : Addr} {H H' : Hp} (s : Keep C M H H') : ∀ {t : Tr} {v : V}, TrAt H v t → TrAt H' v t
  | .leaf r, v, ⟨a, e, h, g⟩ => ⟨a, e, s.tup h, g⟩
  | .node n x y, v, ⟨a, u, z, e, h, l, hx, hy⟩ => ⟨a, u, z, e, s.tup h, l, Keep.tree s hx, Keep.tree s hy⟩
theorem Keep.sqT {C M : Addr} {K : PySem.W.Frag} {H H' : Hp} (s : Keep C M H H') {a : Addr} {xs : List V} (h : SqT K H a xs) : SqT K H' a xs := by
  rcases h with (h | ⟨o, h⟩) | h
  · exact .inl (.inl (s.tup h))
  · exact .inl (.inr ⟨o, s.old _ _ h (by intro dx fs z; cases z)⟩)
  · exact .inr h
theorem Keep.sqL {C M : Addr} {K : PySem.W.Frag} {H H' : Hp} (s : Keep C M H H') {a : Addr} {xs : List V} (h : SqL K H a xs) : SqL K H' a xs := by
  rcases h with (h | ⟨o, h⟩) | h
  · exact .inl (.inl (s.lst h))
  · exact .inl (.inr ⟨o, s.old _ _ h (by intro dx fs z; cases z)⟩)
  · exact .inr h
theorem Keep.cl {C M : Addr} {K : PySem.W.Frag} {H H' : Hp} (s : Keep C M H H') {a : Addr} {ys : List Str} (h : ClAt K H a ys) : ClAt K H' a ys := ⟨s.sqT h.1, h.2⟩
theorem nd_fewH {α : Type} [BEq α] [LawfulBEq α] {L few : List α} (n : L.Nodup) (h : ∀ y ∈ L, y ∈ few) : L.length ≤ few.length := by
  induction L generalizing few with
  | nil => exact Nat.zero_le _
  | cons x L ih =>
    obtain ⟨n1, n2⟩ := List.nodup_cons.mp n
    have hx := h x List.mem_cons_self
    have q := ih (few := few.erase x) n2 fun y hy => (List.mem_erase_of_ne fun (e : y = x) => n1 (e ▸ hy)).mpr (h y (List.mem_cons_of_mem _ hy))
    have z := List.length_erase_of_mem hx
    have pos : 0 < few.length := List.length_pos_of_mem hx
    rw [List.length_cons]
    omega
theorem uni_len2 (rs : List (List Str)) : (uni rs).length ≤ rs.length := nd_fewH (uni_nd rs) fun r hr => (mem_uni (rs := rs)).mp hr
/-- what is asked of the class as the top has made it -/
structure TxtB (K : PySem.W.Frag) (mg : Str → Option Value) (C : Addr) : Prop where
  cl : Cls K C
  nR : NoAttr K C "_rows"
  nN : NoAttr K C "_names"
  nM : NoAttr K C "_marks"
  nT : NoAttr K C "_table"
  mgC : mg "Book" = some (.ref C)
  ci : PySem.W.findIn K (.ref C) "__class__" = some (some (.builtin "object.__class__"))
  cn : PySem.W.specialIn K (.builtin "object.__class__") "__get__" = some (some (.builtin "getset_descriptor.__get__"))
  ct : PySem.W.takesIn K (.builtin "object.__class__") = some true
  co : PySem.W.mroIn K C (.type "object") = some true
section
variable {P : Program} {w : World} {K : PySem.W.Frag} {mg : Str → Option Value} {base : Heap}
/-! ### names_among -/
abbrev sAmong : Stmt := top 20
def spAmong : Sp := fun vs H Q _ => ∃ (a : Addr) (ps : List Rs), vs = [.ref a] ∧ H a = some (.lst (refs ps)) ∧ RowsAt H ps ∧ (∀ r ∈ ps, clS r.2 = true ∧ r.2.length < 30) ∧ ps.length < 64 ∧ (∃ few : List Str, few.length ≤ 30 ∧ ∀ y ∈ lits ps, bareS y ∈ few) ∧
  ∀ H' t ns, Same H H' → H t = none → H' t = some (.tup (ns.map V.str)) → ns.Nodup → sortedS ns = true → (∀ y, y ∈ ns ↔ y ∈ (lits ps).map bareS) → ns.length ≤ 30 → Q (.ref t) H'
theorem sc_among : FnScope ["clauses", "clause", "literal"] ["clauses"] (defScope sAmong) := ⟨rfl, rfl, rfl, by decide +kernel, rfl, by decide +kernel, by decide +kernel⟩
theorem ok_among {f : Addr} {fd : FuncData} (G : Fun K "names_among" "names_among" sAmong f fd) (B : Pts mg) (FB : FN P w K mg base "bare" 1 ["literal"] spBare) : FnOk P w K mg base CX0 2 f fd ["clauses"] spAmong := by
  have sc := sc_among
  obtain ⟨fB, dB, mB, kB, OB, bB⟩ := FB
  refine G.ok sc (fun vs H Q E h => ?_) (fun cdv A outer s H vs Q E hr h => ?_)
  · obtain ⟨_, _, rfl, _⟩ := h
    rfl
  · obtain ⟨a, ps, rfl, hA, hrow, cl, few, ⟨nm, nml, nmi⟩, k⟩ := h
    refine ⟨_, pss_one (ps_ret (pe_callTy call_tuple_of (by rfl) B.tuple boot_tuple (pa_cons (pe_callB (cr_sortTx rfl) (by rfl) B.sorted (by decide +kernel) (pa_cons (pe_sc2 (own := [("clause", 1), ("literal", 2)]) (vs1 := [2]) (g := gName 1) (g1 := gName 2) (wi1 := iTup K (tVar 1)) rfl sc.nd (pi_list (pv 0))
          (blkOk_by (N := ["clauses", "clause", "literal"]) (sc := defScope sAmong) (by decide +kernel)) (by decide) (fun _ _ _ _ _ => pg_name (i := 1) sc.nd rfl (Or.inl rfl)) (fun _ _ _ _ _ => pi_tup (pv 1)) (fun _ _ _ _ _ => pg_name (i := 2) sc.nd rfl (Or.inl rfl))
          (fun _ _ _ _ _ => pe_call OB hr rfl mB kB bB .nil pass0 (pa_cons (pv 2) pa_nil))) pa_nil)) pa_nil))), ?_⟩
    have fin : ∀ r ∈ ps, r.2.length < 30 := fun r hr' => (cl r hr').2
    dsimp only [tRet, tCB, tCons, tNil]
    refine rows_sc2 (ps := ps) bareS rfl (SqL.of hA) hrow (by unfold scanBound; have := lits_len fin; omega) (fun _ => rfl) (fun _ => rfl) (fun _ _ => rfl) (fun x y H7 Ψ hy s7 q => ?_) (fun H7 D7 L7 nD7 s7 h7 n7 m7 l7 => ?_)
    · walk_at "go"
      obtain ⟨rr, hrr, hyr⟩ := List.mem_flatMap.mp hy
      have ly : litS y = true := List.all_eq_true.mp (ClAt.lits (K := K) (H := H) (a := rr.1) ⟨SqT.of (hrow rr hrr), (cl rr hrr).1, (cl rr hrr).2⟩) y hyr
      have := lit_short ly
      exact ⟨by rw [sizeLine_eq]; omega, q⟩
    · have few7 : L7.length ≤ 30 := Nat.le_trans (nd_few n7 fun y hy => by
        obtain ⟨z, hz, rfl⟩ := List.mem_map.mp ((m7 y).mp hy)
        exact nmi z hz) nml
      refine ⟨D7, L7, rfl, h7, by omega, fun ns r7 pm7 so7 nr7 => ?_⟩
      have s8 := same_new (o := .lst (ns.map V.str)) nr7
      refine ⟨r7, _, rfl, .inl ⟨SqL.of upd_same, fun t7 nt7 => ?_⟩⟩
      have s78 := same_trans s7 s8
      exact k _ t7 ns (same_trans s78 (same_new nt7)) (same_free s78 nt7) upd_same (pm7.nodup_iff.mpr n7) so7 (fun y => (pm7.mem_iff).trans (m7 y)) (by rw [pm7.length_eq]; exact few7)
/-! ### __init__ -/
def spBInit (K : PySem.W.Frag) (C M : Addr) : Sp := fun vs H Q _ => ∃ (p dx a : Addr) (ps : List Rs), vs = [.ref p, .ref a] ∧ H p = some (.ins C dx []) ∧ H a = some (.lst (refs ps)) ∧ RowsAt H ps ∧ (∀ r ∈ ps, clS r.2 = true ∧ r.2.length < 30) ∧ ps.length < 64 ∧ (∃ few : List Str, few.length ≤ 30 ∧ ∀ y ∈ lits ps, bareS y ∈ few) ∧
  ∀ H' ns, Fr p H H' → BookAt C M H' p (uni (ps.map (·.2))) ns → ns.Nodup → sortedS ns = true → (∀ y, y ∈ ns ↔ y ∈ (lits ps).map bareS) → Q .non H'
theorem sc_binit : FnScope ["self", "clauses", "clause"] ["self", "clauses"] (defScope sBInit) := ⟨rfl, rfl, rfl, by decide +kernel, rfl, by decide +kernel, by decide +kernel⟩
theorem ok_binit {f C M : Addr} {fd : FuncData} (G : Fun K "__init__" "Book.__init__" sBInit f fd) (B : Pts mg) (T : TxtB K mg C) (FI : FN P w K mg base "is_clause" 4 ["value"] (spIsCl K)) (FA : FN P w K mg base "names_among" 2 ["clauses"] spAmong) :
    FnOk P w K mg base CX0 5 f fd ["self", "clauses"] (spBInit K C M) := by
  have sc := sc_binit
  obtain ⟨fI, dI, mI, kI, OI, bI⟩ := FI
  obtain ⟨fA, dA, mA, kA, OA, bA⟩ := FA
  refine G.ok sc (fun vs H Q E h => ?_) (fun cdv A outer s H vs Q E hr h => ?_)
  · obtain ⟨_, _, _, _, rfl, _⟩ := h
    rfl
  · obtain ⟨p, dx, a, ps, rfl, hp, hA, hrow, cl, few, nam, k⟩ := h
    have hS : SqL K H a (refs ps) := SqL.of hA
    have nap : a ≠ p := ne_of hA hp (by intro z; cases z)
    have hr2 : Room 2 _ := hr.mono (by decide)
    refine ⟨_, pss_cons (ps_if (PW.pt (pw_or (pt_not (pt_val (pe_callB call_isi (by rfl) B.isinstance boot_isinstance (pa_cons (pv 1) (pa_cons (pe_bltn (v := .ty "list") (by rfl) B.list boot_list rfl) pa_nil)))))
        (pw_or1 (pt_not (pt_val (pe_callB (cr_all rfl) (by rfl) B.all (by decide +kernel) (pa_cons (pe_lc (own := [("clause", 2)]) (g := gName 2) (tt := tYes) rfl sc.nd (pi_sq (pv 1))
          (blkOk_by (N := ["self", "clauses", "clause"]) (sc := defScope sBInit) (by decide +kernel)) (fun _ _ _ _ _ => pg_name (i := 2) sc.nd rfl (Or.inl rfl)) (fun _ _ _ _ _ => pts_nil)
          (fun _ _ _ _ _ => pe_call OI hr rfl mI kI bI .nil pass0 (pa_cons (pv 2) pa_nil))) pa_nil))))))) (pss_one ps_never) pss_nil)
      (pss_cons (ps_fld (pv 0) (pe_callTy call_tuple_of (by rfl) B.tuple boot_tuple (pa_cons (pe_callB (cr_sortSet rfl hr.units) (by rfl) B.sorted (by decide +kernel) (pa_cons (pe_callTy (cr_setR rfl hr.units) (by rfl) B.set boot_set (pa_cons (pv 1) pa_nil)) pa_nil)) pa_nil)) rfl)
      (pss_cons (ps_fld (pv 0) (pe_call OA hr2 rfl mA kA bA .nil pass0 (pa_cons (pv 1) pa_nil)) rfl)
      (pss_cons (ps_fld (pv 0) pe_non rfl) (pss_one (ps_fld (pv 0) pe_non rfl))))), ?_⟩
    walk_at "go"
    refine ⟨.ref a, .ty "list", _, _, true, rfl, .ty "list", lst_ty hS, kit_ty (by decide +kernel), ?_⟩
    refine ⟨_, rfl, ?_⟩
    dsimp only [tSeq, tCB, tCons, tNil]
    have bigL : (refs ps).length < sizeLine := by rw [refs, List.length_map, sizeLine_eq]; omega
    refine iteF ?_
    dsimp only [tNot, tB, tCB, tCons, tNil]
    refine seq_lc (fun x => some (.bl ((fun _ => true) x))) rfl (.inl hS) bigL (fun x H2 Ψ Θ hx s2 yes no => ?_) (fun H2 D s2 nD h2 => ?_)
    · obtain ⟨r, hr', rfl⟩ := List.mem_map.mp hx
      walk_at "go"
      have cr := cl r hr'
      have lit : ∀ x ∈ r.2.map V.str, Known K H2 x := lit_known (ClAt.lits (K := K) (H := H2) (a := r.1) ⟨SqT.of (rows_same hrow s2 r hr'), cr.1, cr.2⟩)
      refine .inl ⟨r.1, _, rfl, SqT.of (rows_same hrow s2 r hr'), by rw [List.length_map, sizeLine_eq]; omega, lit, fun H5 s5 => ?_⟩
      rw [clV_strs, cr.1]
      exact yes _ H5 rfl s5
    · refine all_done h2 ?_
      have all1 : (refs ps).all (fun _ => true) = true := by simp
      rw [all1]
      refine ⟨_, rfl, ?_⟩
      refine iteF ?_
      have fin : ∀ r ∈ ps, r.2.length < 30 := fun r hr' => (cl r hr').2
      have ll := lits_len fin
      -- self._rows = tuple(sorted(set(clauses)))
      walk_at "go"
      refine ⟨a, ps, rfl, sqL_same hS s2, rows_same hrow s2, few, fun q L nq sub all nd => ?_⟩
      have s3 := same_trans s2 (same_new (o := SetR P w q L) nq)
      refine ⟨q, L, rfl, upd_same, fun x hx => rows_same hrow s3 x (sub x hx), fun r qs pm e1 nr => ?_⟩
      have s4 := same_trans s3 (same_new (o := .lst (refs qs)) nr)
      refine ⟨r, _, rfl, .inl ⟨SqL.of upd_same, fun t nt => ?_⟩⟩
      have s5 := same_trans s4 (same_new (o := .tup (refs qs)) nt)
      have hrows : RowsAt (upd (upd (upd H2 q (SetR P w q L)) r (.lst (refs qs))) t (.tup (refs qs))) qs := fun x hx => rows_same hrow s5 x (sub x (pm.mem_iff.mp hx))
      have erow : qs.map (·.2) = uni (ps.map (·.2)) := by
        rw [e1]
        exact uni_of nd fun x => ⟨fun z => by
          obtain ⟨y, hy, rfl⟩ := List.mem_map.mp z
          exact List.mem_map.mpr ⟨y, sub y hy, rfl⟩, fun z => by
          obtain ⟨y, hy, rfl⟩ := List.mem_map.mp z
          exact all y hy⟩
      have nt5 := same_free s4 nt
      have npt : p ≠ t := ne_of_none hp nt5
      refine ⟨_, rfl, p, C, dx, [], rfl, s5 _ _ hp, T.cl, T.nR, (by decide), ?_⟩
      -- self._names = names_among(clauses)
      have fr5 : Fr p H (upd (upd (upd H2 q (SetR P w q L)) r (.lst (refs qs))) t (.tup (refs qs))) := fun b o e _ => s5 b o e
      have fr6 := fr5.self (o := .ins C dx (putF "_rows" (.ref t) []))
      have t6 : upd (upd (upd (upd H2 q (SetR P w q L)) r (.lst (refs qs))) t (.tup (refs qs))) p (.ins C dx (putF "_rows" (.ref t) [])) t = some (.tup (refs qs)) := (upd_ne npt.symm).trans upd_same
      have hp6 : upd (upd (upd (upd H2 q (SetR P w q L)) r (.lst (refs qs))) t (.tup (refs qs))) p (.ins C dx (putF "_rows" (.ref t) [])) p = some (.ins C dx (putF "_rows" (.ref t) [])) := upd_same
      have R6 : RowsAt (upd (upd (upd (upd H2 q (SetR P w q L)) r (.lst (refs qs))) t (.tup (refs qs))) p (.ins C dx (putF "_rows" (.ref t) []))) qs := fun x hx => by
        have z := hrows x hx
        have nx : x.1 ≠ p := ne_of z (s5 _ _ hp) (by intro z; cases z)
        exact (upd_ne nx).trans z
      have lenq : qs.length ≤ 3000 := by
        have h1 : (qs.map (·.2)).length ≤ (ps.map (·.2)).length := by
          rw [erow]
          exact uni_len2 _
        rw [List.length_map, List.length_map] at h1
        omega
      refine ⟨_, rfl, a, ps, rfl, fr6 _ _ hA nap, fun x hx => fr6 _ _ (hrow x hx) (ne_of (hrow x hx) hp (by intro z; cases z)), cl, few, nam, fun H7 tn ns s7 ntn h7 nd7 so7 mem7 few7 => ?_⟩
      have hp7 := s7 _ _ hp6
      refine ⟨_, rfl, p, C, dx, _, rfl, hp7, T.cl, T.nN, (by show 1 < 1000; decide), ?_⟩
      have ntp : tn ≠ p := fun z => by
        rw [z] at ntn
        have q := hp6.symm.trans ntn
        cases q
      refine ⟨_, rfl, p, C, dx, _, rfl, upd_same, T.cl, T.nM, (by show 2 < 1000; decide), ?_⟩
      refine ⟨_, rfl, p, C, dx, _, rfl, upd_same, T.cl, T.nT, (by show 3 < 1000; decide), ?_⟩
      rw [fb_made]
      have far : ∀ b o, (upd (upd (upd (upd H2 q (SetR P w q L)) r (.lst (refs qs))) t (.tup (refs qs))) p (.ins C dx (putF "_rows" (.ref t) []))) b = some o → b ≠ p → upd (upd (upd H7 p (.ins C dx (putF "_names" (.ref tn) (putF "_rows" (.ref t) [])))) p (.ins C dx (putF "_marks" .non (putF "_names" (.ref tn) (putF "_rows" (.ref t) []))))) p (.ins C dx (fldsB t tn .non .non)) b = some o := fun b o e nb => by
        rw [upd_ne nb, upd_ne nb, upd_ne nb]
        exact s7 b o e
      have gb : GoodB (qs.map (·.2)) ns := by
        have low : ∀ y ∈ lits ps, litS y = true := fun y hy => by
          obtain ⟨rr, hrr, hyr⟩ := List.mem_flatMap.mp hy
          exact List.all_eq_true.mp (ClAt.lits (K := K) (H := H) (a := rr.1) ⟨SqT.of (hrow rr hrr), (cl rr hrr).1, (cl rr hrr).2⟩) y hyr
        refine ⟨nd7, fun x hx => ?_, fun rr hrr y hy => ?_, few7, by rw [List.length_map]; exact lenq⟩
        · obtain ⟨y, hy, rfl⟩ := List.mem_map.mp ((mem7 x).mp hx)
          exact low y hy
        · rw [erow] at hrr
          obtain ⟨z, hz, rfl⟩ := List.mem_map.mp (mem_uni.mp hrr)
          have my : y ∈ lits ps := List.mem_flatMap.mpr ⟨z, hz, hy⟩
          exact ⟨low y my, (mem7 _).mpr (List.mem_map.mpr ⟨y, my, rfl⟩)⟩
      refine k _ ns (fun b o e nb => far b o (fr6 b o e nb) nb) ⟨dx, t, tn, qs, .non, .non, upd_same, far _ _ t6 npt.symm, fun x hx => ?_, erow, ?_, .inl rfl, erow ▸ gb⟩ nd7 so7 mem7
      · exact far _ _ (R6 x hx) (ne_of (R6 x hx) hp6 (by intro z; cases z))
      · rw [upd_ne ntp, upd_ne ntp, upd_ne ntp]
        exact h7
end
end My
end

section
set_option Elab.async false
set_option linter.all false
set_option maxRecDepth 100000
set_option maxHeartbeats 4000000
namespace My
local macro_rules | `(tactic| walk_at "go") => `(tactic| (repeat (first
  | (refine ⟨_, rfl, ?_⟩)
  | (refine ⟨_, _, rfl, rfl, ?_⟩)
  | (refine ⟨_, _, rfl, ?_⟩)
  | (refine ⟨rfl, ?_⟩)
  | (refine Or.inl ⟨_, rfl, ?_⟩)
  | (refine ⟨_, _, _, _, rfl, rfl, L2.SqL.of (by first | assumption | exact L2.upd_same), rfl, ?_⟩)
  | (refine ⟨_, _, _, _, rfl, rfl, (by first | assumption | exact L2.upd_same), rfl, ?_⟩)
  | (refine And.intro (by first | omega | decide | (unfold L2.CPow; decide) | (unfold L2.CMul; omega) | (unfold L2.CDiv; omega)) ?_))))
open PySem PySem.Spec PyProof.Rows L2 TL MyF MyS MyW RZ MyR
section
variable {P : Program} {w : World} {K : PySem.W.Frag} {mg : Str → Option Value} {base : Heap}
/-! ### _law_one_of -/
abbrev sOne : Stmt := top 43
def spOne (K : PySem.W.Frag) : Sp := fun vs H Q _ => ∃ (p q : Addr) (n : Int) (l xs : List V), vs = [.ref p, .ref q] ∧ H p = some (.lst l) ∧ PurseL n l ∧ n ≤ 900000 ∧ SqL K H q xs ∧ q ≠ p ∧ 0 < xs.length ∧ xs.length ≤ 1000 ∧
  ∀ (l2 : List V) (x : V), PurseL (n + 1) l2 → x ∈ xs → Q x (upd H p (.lst l2))
theorem sc_one : FnScope ["_law_purse_here", "_law_some"] ["_law_purse_here", "_law_some"] (defScope sOne) := ⟨rfl, rfl, rfl, by decide +kernel, rfl, by decide +kernel, by decide +kernel⟩
theorem ok_one {f : Addr} {fd : FuncData} (G : Fun K "_law_one_of" "_law_one_of" sOne f fd) (B : Pts mg) (FD : FN P w K mg base "_law_draw" 2 ["_law_purse_here", "_law_many"] spDraw) : FnOk P w K mg base CX0 3 f fd ["_law_purse_here", "_law_some"] (spOne K) := by
  have sc := sc_one
  obtain ⟨fD, dD, mD, kD, OD, bD⟩ := FD
  refine G.ok sc (fun vs H Q E h => ?_) (fun cdv A outer s H vs Q E hr h => ?_)
  · obtain ⟨_, _, _, _, _, rfl, _⟩ := h
    rfl
  · obtain ⟨p, q, n, l, xs, rfl, hp, hl, hn, hS, nqp, pos, few, k⟩ := h
    refine ⟨_, pss_one (ps_ret (pe_ix ix_list (pv 1) (pe_call OD hr rfl mD kD bD .nil pass0 (pa_cons (pv 0) (pa_cons (pe_callB call_len_seq (by rfl) B.len boot_len (pa_cons (pv 1) pa_nil)) pa_nil))) (fun _ _ => rfl))), ?_⟩
    refine ⟨_, rfl, _, rfl, _, rfl, q, _, rfl, .inl hS, ?_⟩
    refine ⟨p, _, _, l, rfl, hp, hl, by omega, by omega, by omega, fun l2 r hl2 r0 r1 => ?_⟩
    have hi : r.toNat < xs.length := by omega
    refine ⟨q, xs, r, xs[r.toNat], rfl, rfl, (But.set (o := .lst l2)).sqL hS nqp, ?_, k l2 _ hl2 (List.getElem_mem hi)⟩
    have z := atI_nat (List.getElem?_eq_getElem hi)
    rwa [Int.toNat_of_nonneg r0] at z
/-! ### _law_breaks, _law_broken -/
abbrev sLBreaks : Stmt := top 53
def LitL (ys : List Str) : Prop := ∀ y ∈ ys, 1 ≤ y.length ∧ y.length ≤ 9
def spLBreaks (K : PySem.W.Frag) : Sp := fun vs H Q _ => ∃ (p c : Addr) (part ys : List Str), vs = [.ref p, .ref c] ∧ Sq K H p (part.map V.str) ∧ Sq K H c (ys.map V.str) ∧ ys.length < sizeLine ∧ LitL ys ∧ ∀ H', Same H H' → Q (.bl (breaksB part ys)) H'
theorem sc_lbreaks : FnScope ["_law_part", "_law_clause_here", "_law_literal"] ["_law_part", "_law_clause_here"] (defScope sLBreaks) := ⟨rfl, rfl, rfl, by decide +kernel, rfl, by decide +kernel, by decide +kernel⟩
theorem ok_lbreaks {f : Addr} {fd : FuncData} (G : Fun K "_law_breaks" "_law_breaks" sLBreaks f fd) (B : Pts mg) (FO : FN P w K mg base "_law_contrary" 1 ["_law_literal"] (spLOne oppS)) : FnOk P w K mg base CX0 2 f fd ["_law_part", "_law_clause_here"] (spLBreaks K) := by
  have sc := sc_lbreaks
  obtain ⟨fO, dO, mO, kO, OO, bO⟩ := FO
  refine G.ok sc (fun vs H Q E h => ?_) (fun cdv A outer s H vs Q E hr h => ?_)
  · obtain ⟨_, _, _, _, rfl, _⟩ := h
    rfl
  · obtain ⟨p, c, part, ys, rfl, hP, hS, few, lit, k⟩ := h
    refine ⟨_, pss_one (ps_ret (pe_callB (cr_all rfl) (by rfl) B.all (by decide +kernel) (pa_cons (pe_lc (own := [("_law_literal", 2)]) (g := gName 2) (tt := tYes) (te := tOp (rIn K false) (tCall (spLOne oppS) [] E0 (tCons (tVar 2) tNil)) (tVar 0)) rfl sc.nd (pi_sq (pv 1))
        (blkOk_by (N := ["_law_part", "_law_clause_here", "_law_literal"]) (sc := defScope sLBreaks) (by decide +kernel)) (fun _ _ _ _ _ => pg_name (i := 2) sc.nd rfl (Or.inl rfl)) (fun _ _ _ _ _ => pts_nil)
        (fun _ _ _ _ _ => pe_cmpR op_in_seq (pe_call OO hr rfl mO kO bO .nil pass0 (pa_cons (pv 2) pa_nil)) (pv 0) (by rfl))) pa_nil))), ?_⟩
    dsimp only [tRet, tCB, tCons, tNil]
    refine seq_lc (fun x => some (.bl (inV (match x with | .str z => .str (oppS z) | x => x) (part.map V.str)))) rfl hS (by rw [List.length_map]; exact few) (fun x H2 Ψ Θ hx s2 yes no => ?_) (fun H2 D s2 nD h2 => ?_)
    · obtain ⟨y, hy, rfl⟩ := List.mem_map.mp hx
      walk_at "go"
      refine ⟨(lit y hy).1, (lit y hy).2, ?_⟩
      refine ⟨_, rfl, p, _, rfl, hP.same s2, rfl, flat_strs part, ?_⟩
      exact yes _ H2 rfl (same_refl _)
    · refine all_done (xs := ys) (b := fun y => decide (oppS y ∈ part)) ?_ (k H2 s2)
      rw [h2, fm_some, fm_some, List.map_map]
      congr 2
      refine List.map_congr_left fun y _ => ?_
      show V.bl (inV (.str (oppS y)) (part.map V.str)) = _
      rw [inV_strs]
theorem filt_refs {H : Hp} (t : List Str → Bool) : ∀ {ps : List Rs}, RowsAt H ps → (refs ps).filter (fun x => t (strsV (itemsAt H x))) = refs (ps.filter fun p => t p.2)
  | [], _ => rfl
  | p :: ps, h => by
    have e : t (strsV (itemsAt H (.ref p.1))) = t p.2 := by rw [itemsAt_of (h p List.mem_cons_self), strsV_map]
    show ((V.ref p.1) :: refs ps).filter _ = _
    rw [List.filter_cons, List.filter_cons, e, filt_refs t fun q hq => h q (List.mem_cons_of_mem _ hq)]
    split <;> rfl
theorem prd_eq {α : Type} : ∀ {as bs : List α}, Paired (fun a b => a = b) as bs → as = bs
  | _, _, .nil => rfl
  | _, _, .cons h t => by rw [h, prd_eq t]
abbrev sLBroken : Stmt := top 54
/-- the rows ps of which t is so, a new list -/
def spFilt (K : PySem.W.Frag) : Sp := fun vs H Q _ => ∃ (a p : Addr) (ps : List Rs) (part : List Str), vs = [.ref a, .ref p] ∧ SqL K H a (refs ps) ∧ RowsAt H ps ∧ ps.length ≤ 2000 ∧ (∀ r ∈ ps, LitL r.2 ∧ r.2.length < 1000) ∧ Sq K H p (part.map V.str) ∧
  ∀ H' q, Same H H' → H q = none → H' q = some (.lst (refs (ps.filter fun r => breaksB part r.2))) → Q (.ref q) H'
theorem sc_lbroken : FnScope ["_law_rows_here", "_law_part", "_law_clause_here"] ["_law_rows_here", "_law_part"] (defScope sLBroken) := ⟨rfl, rfl, rfl, by decide +kernel, rfl, by decide +kernel, by decide +kernel⟩
theorem ok_lbroken {f : Addr} {fd : FuncData} (G : Fun K "_law_broken" "_law_broken" sLBroken f fd) (FB : FN P w K mg base "_law_breaks" 2 ["_law_part", "_law_clause_here"] (spLBreaks K)) : FnOk P w K mg base CX0 3 f fd ["_law_rows_here", "_law_part"] (spFilt K) := by
  have sc := sc_lbroken
  obtain ⟨fB, dB, mB, kB, OB, bB⟩ := FB
  refine G.ok sc (fun vs H Q E h => ?_) (fun cdv A outer s H vs Q E hr h => ?_)
  · obtain ⟨_, _, _, _, rfl, _⟩ := h
    rfl
  · obtain ⟨a, p, ps, part, rfl, hS, hrow, few, lit, hP, k⟩ := h
    refine ⟨_, pss_one (ps_ret (pe_lc (own := [("_law_clause_here", 2)]) (g := gName 2) (te := tVar 2) (tt := tB (tCall (spLBreaks K) [] E0 (tCons (tVar 1) (tCons (tVar 2) tNil)))) rfl sc.nd (pi_sq (pv 0))
        (blkOk_by (N := ["_law_rows_here", "_law_part", "_law_clause_here"]) (sc := defScope sLBroken) (by decide +kernel)) (fun _ _ _ _ _ => pg_name (i := 2) sc.nd rfl (Or.inl rfl)) (fun _ _ _ _ _ => pts_one (pt_val (pe_call OB hr rfl mB kB bB .nil pass0 (pa_cons (pv 1) (pa_cons (pv 2) pa_nil)))))
        (fun _ _ _ _ _ => pv 2))), ?_⟩
    dsimp only [tRet]
    refine rel_seq (fun x => breaksB part (strsV (itemsAt H x))) (fun x y _ => y = x) (fun x y H H' D l e _ _ => e) rfl (.inl hS) (by rw [refs, List.length_map, sizeLine_eq]; omega) (fun x H2 Ψ Θ hx s2 yes no => ?_) (fun H2 D ys s2 nD h2 pr => ?_)
    · obtain ⟨r, hr', rfl⟩ := List.mem_map.mp hx
      walk_at "go"
      have hrr := hrow r hr'
      refine ⟨p, r.1, part, r.2, rfl, hP.same s2, .inr (SqT.of (s2 _ _ hrr)), by rw [sizeLine_eq]; have := (lit r hr').2; omega, (lit r hr').1, fun H3 s3 => ?_⟩
      have e : breaksB part (strsV (itemsAt H (.ref r.1))) = breaksB part r.2 := by rw [itemsAt_of hrr, strsV_map]
      refine ⟨_, rfl, ?_⟩
      cases hb : breaksB part r.2 with
      | true => exact ⟨_, rfl, yes (by show breaksB part (strsV (itemsAt H (.ref r.1))) = true; rw [e, hb]) _ H3 s3 rfl⟩
      | false => exact no (by show breaksB part (strsV (itemsAt H (.ref r.1))) = false; rw [e, hb]) H3 s3
    · have e := prd_eq pr
      subst e
      rw [filt_refs (breaksB part) hrow] at h2
      exact k H2 D s2 nD h2
end
end My
end

section
set_option Elab.async false
set_option linter.all false
set_option maxRecDepth 100000
set_option maxHeartbeats 4000000
namespace My
local macro_rules | `(tactic| walk_at "go") => `(tactic| (repeat (first
  | (refine ⟨_, rfl, ?_⟩)
  | (refine ⟨_, _, rfl, rfl, ?_⟩)
  | (refine ⟨_, _, rfl, ?_⟩)
  | (refine ⟨rfl, ?_⟩)
  | (refine Or.inl ⟨_, rfl, ?_⟩)
  | (refine ⟨_, _, _, _, rfl, rfl, L2.SqL.of (by first | assumption | exact L2.upd_same), rfl, ?_⟩)
  | (refine ⟨_, _, _, _, rfl, rfl, (by first | assumption | exact L2.upd_same), rfl, ?_⟩)
  | (refine And.intro (by first | omega | decide | (unfold L2.CPow; decide) | (unfold L2.CMul; omega) | (unfold L2.CDiv; omega)) ?_))))
open PySem PySem.Spec PyProof.Rows L2 TL MyF MyS MyW RZ MyR
/-- the texts ys of the list ns, each once, ascending -/
structure NamesOf (ns : List Str) (ps : List Rs) : Prop where
  nd : ns.Nodup
  up : sortedS ns = true
  mem : ∀ y, y ∈ ns ↔ y ∈ (lits ps).map bareS
section
variable {P : Program} {w : World} {K : PySem.W.Frag} {mg : Str → Option Value} {base : Heap}
/-! ### _law_names -/
abbrev sNames : Stmt := top 52
def spNames (K : PySem.W.Frag) : Sp := fun vs H Q _ => ∃ (a : Addr) (ps : List Rs), vs = [.ref a] ∧ SqL K H a (refs ps) ∧ RowsAt H ps ∧ (∀ r ∈ ps, LitL r.2) ∧ (∃ few : List Str, few.length < 64 ∧ ∀ y ∈ lits ps, bareS y ∈ few) ∧
  ∀ H' q ns, Same H H' → H q = none → H' q = some (.lst (ns.map V.str)) → NamesOf ns ps → Q (.ref q) H'
theorem sc_names : FnScope ["_law_rows_here", "_law_found", "_law_clause_here", "_law_literal"] ["_law_rows_here"] (defScope sNames) := ⟨rfl, rfl, rfl, by decide +kernel, rfl, by decide +kernel, by decide +kernel⟩
/-- the dict so far -/
def DSoFar (few : List Str) (H1 : Hp) (D : Addr) (ys : List Str) (H : Hp) : Prop := Same H1 H ∧ ∃ (kvs : List (Key × V)) (ks : List Str), H D = some (.dK kvs) ∧ kvs.map (·.1) = ks.map Sum.inr ∧ ks.Nodup ∧ (∀ u, u ∈ ks ↔ u ∈ ys.map bareS)
theorem ok_names {f : Addr} {fd : FuncData} (G : Fun K "_law_names" "_law_names" sNames f fd) (B : Pts mg) (FB : FN P w K mg base "_law_bare" 1 ["_law_literal"] (spLOne bareS)) : FnOk P w K mg base CX0 2 f fd ["_law_rows_here"] (spNames K) := by
  have sc := sc_names
  obtain ⟨fB, dB, mB, kB, OB, bB⟩ := FB
  refine G.ok sc (fun vs H Q E h => ?_) (fun cdv A outer s H vs Q E hr h => ?_)
  · obtain ⟨_, _, rfl, _⟩ := h
    rfl
  · obtain ⟨a, ps, rfl, hS, hrow, lit, ⟨nm, nml, nmi⟩, k⟩ := h
    have hu := hu_of hr
    refine ⟨_, pss_cons (ps_set (i := 1) sc.nd rfl (Or.inl rfl) pe_dnewK) (pss_cons (ps_for PassesOwn.never rfl (pi_list (pv 0)) (pg_name (i := 2) sc.nd rfl (Or.inl rfl))
      (pss_one (ps_for PassesOwn.never rfl (pi_tup (pv 2)) (pg_name (i := 3) sc.nd rfl (Or.inl rfl))
        (pss_one (ps_dput hu (pv 1) (pe_call OB hr rfl mB kB bB .nil pass0 (pa_cons (pv 3) pa_nil)) pe_bl rfl)))))
      (pss_one (ps_ret (pe_callB (call_sortedD rfl) (by rfl) B.sorted (by decide +kernel) (pa_cons (pv 1) pa_nil))))), ?_⟩
    refine fun D nD => ?_
    refine ⟨_, rfl, a, rfl, ⟨_, sqL_same hS (same_new nD)⟩, ?_⟩
    refine for_list (xs := refs ps) (fun i σ H2 => ∃ v2 v3, σ = [some (.ref a), some (.ref D), v2, v3] ∧ DSoFar nm H D (lits (ps.take i)) H2) ?_ ?_ ?_ ?_
    · exact ⟨none, none, rfl, same_new nD, [], [], upd_same, rfl, List.nodup_nil, by simp [lits]⟩
    · rintro i σ H2 hi ⟨_, _, rfl, so⟩
      exact sqL_same hS so.1
    · rintro i x σ H2 hx ⟨v2, v3, rfl, so⟩
      obtain ⟨p, hp, rfl⟩ : ∃ p, ps[i]? = some p ∧ V.ref p.1 = x := by
        rw [refs, List.getElem?_map] at hx
        exact Option.map_eq_some_iff.mp hx
      have pm := List.mem_of_getElem? hp
      refine ⟨_, rfl, p.1, rfl, ⟨_, SqT.of (so.1 _ _ (hrow p pm))⟩, ?_⟩
      refine for_tup (xs := p.2.map V.str) (fun j σ H3 => ∃ v3, σ = [some (.ref a), some (.ref D), some (.ref p.1), v3] ∧ DSoFar nm H D (lits (ps.take i) ++ p.2.take j) H3) ?_ ?_ ?_ ?_
      · exact ⟨v3, rfl, by simpa using so⟩
      · rintro j σ H3 hj ⟨_, rfl, so3⟩
        exact SqT.of (so3.1 _ _ (hrow p pm))
      · rintro j y σ H3 hy ⟨v3', rfl, so3⟩
        obtain ⟨z, hz, rfl⟩ : ∃ z, p.2[j]? = some z ∧ V.str z = y := by
          rw [List.getElem?_map] at hy
          exact Option.map_eq_some_iff.mp hy
        have zm := List.mem_of_getElem? hz
        obtain ⟨s3, kvs, ks, hD, ek, nk, mk'⟩ := so3
        have zl : z ∈ lits ps := List.mem_flatMap.mpr ⟨p, pm, zm⟩
        have ll := lit p pm z zm
        have sub : ∀ u ∈ ks, u ∈ nm := fun u hu' => by
          obtain ⟨q, hq, rfl⟩ := List.mem_map.mp ((mk' u).mp hu')
          refine nmi q ?_
          rcases List.mem_append.mp hq with hq | hq
          · obtain ⟨r, hr', hqr⟩ := List.mem_flatMap.mp hq
            exact List.mem_flatMap.mpr ⟨r, List.mem_of_mem_take hr', hqr⟩
          · exact List.mem_flatMap.mpr ⟨p, pm, List.mem_of_mem_take hq⟩
        have lk : kvs.length < 64 := by
          have h1 := nd_few nk sub
          have h2 := congrArg List.length ek
          rw [List.length_map, List.length_map] at h2
          omega
        refine ⟨_, rfl, _, rfl, z, rfl, ll.1, ll.2, ?_⟩
        refine ⟨D, _, rfl, DPut.k (k := Sum.inr (bareS z)) hD (by rw [sizeLine_eq]; omega), ?_⟩
        have pk := put_keys kvs ks (bareS z) (.bl true) ek
        have tk : lits (ps.take i) ++ p.2.take (j + 1) = (lits (ps.take i) ++ p.2.take j) ++ [z] := by
          rw [List.take_add_one, hz, List.append_assoc]
          rfl
        refine ⟨_, rfl, fun b o e => ?_, _, _, upd_same, pk, ?_, fun u => ?_⟩
        · rw [upd_ne (ne_of_none e nD)]
          exact s3 b o e
        · split
          · exact nk
          · rename_i c
            exact List.nodup_append.mpr ⟨nk, by simp, fun a ha b hb z' => c (by rw [List.mem_singleton] at hb; subst hb; subst z'; exact ha)⟩
        · rw [tk, List.map_append, List.mem_append, ← mk']
          split
          · rename_i c
            exact ⟨.inl, fun q => q.elim id fun q => by
              rw [List.map_singleton, List.mem_singleton] at q
              exact q ▸ c⟩
          · rw [List.mem_append, List.map_singleton]
      · rintro σ H3 ⟨v3', rfl, so3⟩
        rw [List.length_map, List.take_length] at so3
        exact ⟨_, _, rfl, by rw [lits_snoc hp]; exact so3⟩
    · rintro σ H2 ⟨v2, v3, rfl, s2, kvs, ks, hD, ek, nk, mk'⟩
      rw [show (refs ps).length = ps.length by rw [refs, List.length_map], List.take_length] at mk'
      have sub : ∀ u ∈ ks, u ∈ nm := fun u hu' => by
        obtain ⟨q, hq, rfl⟩ := List.mem_map.mp ((mk' u).mp hu')
        exact nmi q hq
      have lk := nd_few nk sub
      refine ⟨_, rfl, D, kvs, ks, rfl, .inl hD, ek, by omega, fun ns q pm so nq => ?_⟩
      exact k _ q ns (same_trans s2 (same_new nq)) (same_free s2 nq) upd_same ⟨pm.nodup_iff.mpr nk, so, fun y => (pm.mem_iff).trans (mk' y)⟩
end
end My
end

section
set_option Elab.async false
set_option linter.all false
set_option maxRecDepth 100000
set_option maxHeartbeats 4000000
namespace My
local macro_rules | `(tactic| walk_at "go") => `(tactic| (repeat (first
  | (refine ⟨_, rfl, ?_⟩)
  | (refine ⟨_, _, rfl, rfl, ?_⟩)
  | (refine ⟨_, _, rfl, ?_⟩)
  | (refine ⟨rfl, ?_⟩)
  | (refine Or.inl ⟨_, rfl, ?_⟩)
  | (refine ⟨_, _, _, _, rfl, rfl, L2.SqL.of (by first | assumption | exact L2.upd_same), rfl, ?_⟩)
  | (refine ⟨_, _, _, _, rfl, rfl, (by first | assumption | exact L2.upd_same), rfl, ?_⟩)
  | (refine And.intro (by first | omega | decide | (unfold L2.CPow; decide) | (unfold L2.CMul; omega) | (unfold L2.CDiv; omega)) ?_))))
open PySem PySem.Spec PyProof.Rows L2 TL MyF MyS MyW RZ MyR
theorem rows_inj {H : Hp} : ∀ {qs qs' : List Rs}, RowsAt H qs → RowsAt H qs' → refs qs = refs qs' → qs = qs'
  | [], [], _, _, _ => rfl
  | [], _ :: _, _, _, e => by cases e
  | _ :: _, [], _, _, e => by cases e
  | q :: qs, q' :: qs', h, h', e => by
    have e2 : V.ref q.1 :: refs qs = V.ref q'.1 :: refs qs' := e
    injection e2 with e3 e4
    injection e3 with e3
    have ih := rows_inj (fun x hx => h x (List.mem_cons_of_mem _ hx)) (fun x hx => h' x (List.mem_cons_of_mem _ hx)) e4
    have a := h q List.mem_cons_self
    have b := h' q' List.mem_cons_self
    rw [e3, b] at a
    injection a with a
    injection a with a
    have e5 : q'.2 = q.2 := (List.map_inj_right fun _ _ z => by injection z).mp a
    rw [ih]
    congr 1
    exact Prod.ext e3 e5.symm
theorem strs_injB {ns ms : List Str} (e : ns.map V.str = ms.map V.str) : ns = ms := (List.map_inj_right fun _ _ z => by injection z).mp e
theorem MarksAt.fr {C M : Addr} {H H' : Hp} {m b dxb tr tn : Addr} {mv tv : V} {rows : List (List Str)} {ns : List Str} (h : MarksAt M H m rows ns) (f : Fr b H H') (hb : H b = some (.ins C dxb (fldsB tr tn mv tv))) : MarksAt M H' m rows ns := by
  obtain ⟨dx, db, ds, dr, h1, ⟨kb, b1, b2⟩, ⟨ks, s1, s2, s3, s4⟩, ⟨kr, r1, r2⟩⟩ := h
  have nm : m ≠ b := ne_of h1 hb (by
    intro z
    injection z with z1 z2 z3
    unfold fldsM fldsB at z3
    injection z3 with z4 z5
    injection z4 with z6 z7
    exact absurd z6 (by decide +kernel))
  exact ⟨dx, db, ds, dr, f _ _ h1 nm, ⟨kb, f _ _ b1 (ne_of b1 hb (by intro z; cases z)), b2⟩, ⟨ks, f _ _ s1 (ne_of s1 hb (by intro z; cases z)), s2, fun x hx => let ⟨t, e1, e2⟩ := s3 x hx; ⟨t, e1, f _ _ e2 (ne_of e2 hb (by intro z; cases z))⟩, s4⟩, ⟨kr, f _ _ r1 (ne_of r1 hb (by intro z; cases z)), r2⟩⟩
/-- the marks are put into a book -/
theorem Keep.put {C M : Addr} {H H' : Hp} {b dx tr tn m : Addr} {tv : V} {qs : List Rs} {ns : List Str} (f : Fr b H H') (hb : H b = some (.ins C dx (fldsB tr tn .non tv))) (h2 : H tr = some (.tup (refs qs))) (h3 : RowsAt H qs) (h5 : H tn = some (.tup (ns.map V.str)))
    (hb' : H' b = some (.ins C dx (fldsB tr tn (.ref m) tv))) (hm : MarksAt M H' m (qs.map (·.2)) ns) : Keep C M H H' := by
  have up : ∀ {p o}, H p = some o → (∀ dx fs, o ≠ .ins C dx fs) → H' p = some o := fun {p o} e n => f p o e fun z => by
    rw [z, hb] at e
    exact n _ _ (Option.some.inj e).symm
  refine ⟨fun p o e n => up e n, fun p dx' fs e => ?_, fun x rows ms h => ?_⟩
  · by_cases z : p = b
    · subst z
      rw [hb] at e
      injection e with e
      injection e with e1 e2 e3
      subst e2
      exact ⟨_, hb'⟩
    · exact ⟨fs, f _ _ e z⟩
  · obtain ⟨dx', tr', tn', qs', mv', tv', k1, k2, k3, k4, k5, k6, k7⟩ := h
    have R' : RowsAt H' qs' := fun q hq => up (k3 q hq) (by intro dx fs z; cases z)
    have t2 := up k2 (by intro dx fs z; cases z)
    have t5 := up k5 (by intro dx fs z; cases z)
    by_cases z : x = b
    · subst z
      rw [hb] at k1
      injection k1 with k1
      injection k1 with k8 k9 k10
      unfold fldsB at k10
      injection k10 with k11 k12
      injection k11 with _ k11
      injection k11 with k11
      injection k12 with k12 k13
      injection k12 with _ k12
      injection k12 with k12
      subst k11
      subst k12
      rw [h2] at k2
      injection k2 with k2
      injection k2 with k2
      rw [h5] at k5
      injection k5 with k5
      injection k5 with k5
      have eq := rows_inj h3 k3 k2
      have en := strs_injB k5
      subst eq
      subst en
      exact ⟨dx, tr, tn, qs, .ref m, tv, hb', t2, R', k4, t5, .inr ⟨m, rfl, k4 ▸ hm⟩, k7⟩
    · exact ⟨dx', tr', tn', qs', mv', tv', f _ _ k1 z, t2, R', k4, t5, k6.imp id fun ⟨m', e, q⟩ => ⟨m', e, q.fr f hb⟩, k7⟩
section
variable {P : Program} {w : World} {K : PySem.W.Frag} {mg : Str → Option Value} {base : Heap}
/-- a new list of the book's rows -/
def spBCl (C M : Addr) : Sp := fun vs H Q _ => ∃ (b : Addr) (rows : List (List Str)) (ns : List Str), vs = [.ref b] ∧ BookAt C M H b rows ns ∧ ∀ H' p, Same H H' → NewRows H H' p rows → Q (.ref p) H'
theorem sc_bcl : FnScope ["self"] ["self"] (defScope sBCl) := ⟨rfl, rfl, rfl, by decide +kernel, rfl, by decide +kernel, by decide +kernel⟩
theorem ok_bcl {f C M : Addr} {fd : FuncData} (G : Fun K "clauses" "Book.clauses" sBCl f fd) (B : Pts mg) (T : TxtB K mg C) : FnOk P w K mg base CX0 1 f fd ["self"] (spBCl C M) := by
  have sc := sc_bcl
  refine G.ok sc (fun vs H Q E h => ?_) (fun cdv A outer s H vs Q E hr h => ?_)
  · obtain ⟨_, _, _, rfl, _⟩ := h
    rfl
  · obtain ⟨b, rows, ns, rfl, ⟨dx, tr, tn, qs, mv, tv, h1, h2, h3, h4, h5, h6, h7⟩, k⟩ := h
    refine ⟨_, pss_one (ps_ret (pe_callTy call_list_of (by rfl) B.list boot_list (pa_cons (pe_fld (pv 0) rfl) pa_nil))), ?_⟩
    refine ⟨_, rfl, b, C, dx, _, _, rfl, h1, T.cl, T.nR, fb_rows _ _ _ _, tr, _, rfl, .inr (SqT.of h2), fun l nl => ?_⟩
    exact k _ l (same_new nl) ⟨nl, qs, upd_same, h3.upd nl, h4⟩
/-- a new list of the book's variables -/
def spBVar (C M : Addr) : Sp := fun vs H Q _ => ∃ (b : Addr) (rows : List (List Str)) (ns : List Str), vs = [.ref b] ∧ BookAt C M H b rows ns ∧ ∀ H' p, Same H H' → H p = none → H' p = some (.lst (ns.map V.str)) → Q (.ref p) H'
theorem sc_bvar : FnScope ["self"] ["self"] (defScope sBVar) := ⟨rfl, rfl, rfl, by decide +kernel, rfl, by decide +kernel, by decide +kernel⟩
theorem ok_bvar {f C M : Addr} {fd : FuncData} (G : Fun K "variables" "Book.variables" sBVar f fd) (B : Pts mg) (T : TxtB K mg C) : FnOk P w K mg base CX0 1 f fd ["self"] (spBVar C M) := by
  have sc := sc_bvar
  refine G.ok sc (fun vs H Q E h => ?_) (fun cdv A outer s H vs Q E hr h => ?_)
  · obtain ⟨_, _, _, rfl, _⟩ := h
    rfl
  · obtain ⟨b, rows, ns, rfl, ⟨dx, tr, tn, qs, mv, tv, h1, h2, h3, h4, h5, h6, h7⟩, k⟩ := h
    refine ⟨_, pss_one (ps_ret (pe_callTy call_list_of (by rfl) B.list boot_list (pa_cons (pe_fld (pv 0) rfl) pa_nil))), ?_⟩
    refine ⟨_, rfl, b, C, dx, _, _, rfl, h1, T.cl, T.nN, fb_names _ _ _ _, tn, _, rfl, .inr (SqT.of h5), fun l nl => ?_⟩
    exact k _ l (same_new nl) nl upd_same
theorem BookAt.ty {C M : Addr} {H : Hp} {b : Addr} {rows : List (List Str)} {ns : List Str} (h : BookAt C M H b rows ns) (T : TxtB K mg C) : TyX K H (.ref b) (.ref C) := by
  obtain ⟨dx, tr, tn, qs, mv, tv, h1, _⟩ := h
  exact .base (.ins h1 T.cl T.ci T.cn T.ct T.co)
theorem kit_self (c : Value) : PySem.W.kitOne K c c = some true := by
  unfold PySem.W.kitOne
  rw [if_pos (beq_self_eq_true c)]
/-- two books of the same rows, of plain signs -/
def EqB (C M : Addr) (a b : Addr) (H : Hp) : Prop := ∃ rows ns ms, BookAt C M H a rows ns ∧ BookAt C M H b rows ms ∧ ∀ r ∈ rows, OkR r
theorem sc_beq : FnScope ["self", "other"] ["self", "other"] (defScope sBEq) := ⟨rfl, rfl, rfl, by decide +kernel, rfl, by decide +kernel, by decide +kernel⟩
theorem ok_beq {f C M : Addr} {fd : FuncData} (G : Fun K "__eq__" "Book.__eq__" sBEq f fd) (B : Pts mg) (T : TxtB K mg C) : FnOk P w K mg base CX0 1 f fd ["self", "other"] (spEq (EqB C M)) := by
  have sc := sc_beq
  refine G.ok sc (fun vs H Q E h => ?_) (fun cdv A outer s H vs Q E hr h => ?_)
  · obtain ⟨_, _, rfl, _⟩ := h
    rfl
  · obtain ⟨a, b, rfl, ⟨rows, ns, ms, ha, hb, pl⟩, k⟩ := h
    refine ⟨_, pss_one (ps_ret (pe_and (pe_callB call_isi (by rfl) B.isinstance boot_isinstance (pa_cons (pv 1) (pa_cons (pe_glob (v := .ref C) (by rfl) T.mgC rfl) pa_nil))) (pe_one (pe_cmpR (op_eqD hr.units) (pe_fld (pv 0) rfl) (pe_fld (pv 1) rfl) (nomark _))))), ?_⟩
    have tb := hb.ty T
    obtain ⟨dx, tr, tn, qs, mv, tv, h1, h2, h3, h4, h5, h6, h7⟩ := id ha
    obtain ⟨dx', tr', tn', qs', mv', tv', h1', h2', h3', h4', h5', h6', h7'⟩ := id hb
    refine ⟨_, rfl, ?_⟩
    refine ⟨.ref b, .ref C, _, _, true, rfl, .own C, tb, kit_self _, ?_⟩
    refine ⟨_, rfl, ?_⟩
    refine ⟨_, rfl, a, C, dx, _, _, rfl, h1, T.cl, T.nR, fb_rows _ _ _ _, _, rfl, b, C, dx', _, _, rfl, h1', T.cl, T.nR, fb_rows _ _ _ _, ?_⟩
    refine ⟨.tuple (rows.map encR), .tuple (rows.map encR), .tup (SqT.of h2) (h4 ▸ dp_rows h3), .tup (SqT.of h2') (h4' ▸ dp_rows h3'), shaped_tup pl, shaped_tup pl, ?_⟩
    rw [PyData.eqv, eqv_rows]
    simpa using k H (fun _ _ e => e)
/-! ### need_book, breaks -/
abbrev sNeedB : Stmt := top 21
def spNeedB (C M : Addr) : Sp := fun vs H Q _ => ∃ (b : Addr) (rows : List (List Str)) (ns : List Str), vs = [.ref b] ∧ BookAt C M H b rows ns ∧ Q .non H
theorem sc_needb : FnScope ["book"] ["book"] (defScope sNeedB) := ⟨rfl, rfl, rfl, by decide +kernel, rfl, by decide +kernel, by decide +kernel⟩
theorem ok_needb {f C M : Addr} {fd : FuncData} (G : Fun K "need_book" "need_book" sNeedB f fd) (B : Pts mg) (T : TxtB K mg C) : FnOk P w K mg base CX0 1 f fd ["book"] (spNeedB C M) := by
  have sc := sc_needb
  refine G.ok sc (fun vs H Q E h => ?_) (fun cdv A outer s H vs Q E hr h => ?_)
  · obtain ⟨_, _, _, rfl, _⟩ := h
    rfl
  · obtain ⟨b, rows, ns, rfl, hb, k⟩ := h
    refine ⟨_, pss_one (ps_if (pt_not (pt_val (pe_callB call_isi (by rfl) B.isinstance boot_isinstance (pa_cons (pv 0) (pa_cons (pe_glob (v := .ref C) (by rfl) T.mgC rfl) pa_nil))))) (pss_one ps_never) pss_nil), ?_⟩
    refine ⟨_, rfl, ?_⟩
    refine ⟨.ref b, .ref C, _, _, true, rfl, .own C, hb.ty T, kit_self _, ?_⟩
    refine ⟨_, rfl, ?_⟩
    exact iteF k
/-! ### marks -/
def spBMarks (C M : Addr) : Sp := fun vs H Q _ => ∃ (b : Addr) (rows : List (List Str)) (ns : List Str), vs = [.ref b] ∧ BookAt C M H b rows ns ∧ ∀ H' m, Keep C M H H' → MarksAt M H' m rows ns → Q (.ref m) H'
theorem sc_bmarks : FnScope ["self"] ["self"] (defScope sBMarks) := ⟨rfl, rfl, rfl, by decide +kernel, rfl, by decide +kernel, by decide +kernel⟩
theorem ok_bmarks {f C M fi : Addr} {fd fdi : FuncData} (G : Fun K "marks" "Book.marks" sBMarks f fd) (T : TxtB K mg C) (TM : TxtM K mg M) (MM : Mk K M fi) (OI : FnOk P w K mg base CX0 3 fi fdi ["self", "rows", "names"] (spMInit M)) (bI : Binds K fdi ["self", "rows", "names"] []) :
    FnOk P w K mg base CX0 5 f fd ["self"] (spBMarks C M) := by
  have sc := sc_bmarks
  refine G.ok sc (fun vs H Q E h => ?_) (fun cdv A outer s H vs Q E hr h => ?_)
  · obtain ⟨_, _, _, rfl, _⟩ := h
    rfl
  · obtain ⟨b, rows, ns, rfl, hb, k⟩ := h
    obtain ⟨dx, tr, tn, qs, mv, tv, h1, h2, h3, h4, h5, h6, h7⟩ := id hb
    refine ⟨_, pss_cons (ps_if (pt_cmpR op_isN (pe_fld (pv 0) rfl) pe_non (nomark _)) (pss_one (ps_fld (pv 0) (pe_make MM OI hr (by rfl) TM.mgM bI .nil pass0 (pa_cons (pe_fld (pv 0) rfl) (pa_cons (pe_fld (pv 0) rfl) pa_nil))) rfl)) pss_nil)
      (pss_one (ps_ret (pe_fld (pv 0) rfl))), ?_⟩
    refine ⟨_, rfl, b, C, dx, _, _, rfl, h1, T.cl, T.nM, fb_marks _ _ _ _, ?_⟩
    refine ⟨rfl, _, rfl, ?_⟩
    rcases h6 with rfl | ⟨m, rfl, hm⟩
    · refine iteT ?_
      refine ⟨_, rfl, b, C, dx, _, _, rfl, h1, T.cl, T.nR, fb_rows _ _ _ _, _, rfl, b, C, dx, _, _, rfl, h1, T.cl, T.nN, fb_names _ _ _ _, ?_⟩
      refine fun x dxm nx ndx ne => ?_
      have s2 : Same H (upd (upd H dxm (.own x)) x (.ins M dxm [])) := fun p o e => by
        rw [upd_ne (ne_of_none e nx), upd_ne (ne_of_none e ndx)]
        exact e
      refine ⟨x, dxm, tr, tn, qs, ns, rfl, upd_same, s2 _ _ h2, rows_same h3 s2, s2 _ _ h5, h7.nd, h7.lo, fun q hq => h7.lits q.2 (h4 ▸ List.mem_map.mpr ⟨q, hq, rfl⟩), h7.few, by have := h7.few2; rw [← h4, List.length_map] at this; exact this, fun H3 f3 hm3 => ⟨rfl, ?_⟩⟩
      have fx : ∀ p o, H p = some o → H3 p = some o := fun p o e => f3 _ _ (s2 _ _ e) (ne_of_none e nx)
      refine ⟨_, rfl, b, C, dx, _, rfl, fx _ _ h1, T.cl, T.nM, (by show 4 < 1000; decide), ?_⟩
      rw [fb_put]
      have hb' := upd_same (H := H3) (a := b) (o := .ins C dx (fldsB tr tn (.ref x) tv))
      have f4 : Fr b H3 (upd H3 b (.ins C dx (fldsB tr tn (.ref x) tv))) := fun p o e n => (upd_ne n).trans e
      have f5 : Fr b H (upd H3 b (.ins C dx (fldsB tr tn (.ref x) tv))) := fun p o e n => f4 _ _ (fx _ _ e) n
      have hm4 := hm3.fr f4 (fx _ _ h1)
      have kp : Keep C M H (upd H3 b (.ins C dx (fldsB tr tn (.ref x) tv))) := Keep.put f5 h1 h2 h3 h5 hb' hm4
      refine ⟨_, rfl, b, C, dx, _, _, rfl, hb', T.cl, T.nM, fb_marks _ _ _ _, ?_⟩
      exact k _ x kp (h4 ▸ hm4)
    · refine iteF ?_
      refine ⟨_, rfl, b, C, dx, _, _, rfl, h1, T.cl, T.nM, fb_marks _ _ _ _, ?_⟩
      exact k H m (Keep.of (same_refl H)) hm
/-! ### _law_made -/
abbrev sMade : Stmt := top 64
def spMade (K : PySem.W.Frag) (C M : Addr) : Sp := fun vs H Q _ => ∃ (a : Addr) (ps : List Rs), vs = [.ref a] ∧ SqL K H a (refs ps) ∧ RowsAt H ps ∧ (∀ r ∈ ps, clS r.2 = true ∧ r.2.length < 30) ∧ ps.length < 64 ∧ (∃ few : List Str, few.length ≤ 30 ∧ ∀ y ∈ lits ps, bareS y ∈ few) ∧
  ∀ H' b ns, Same H H' → BookAt C M H' b (uni (ps.map (·.2))) ns → NamesOf ns ps → Q (.ref b) H'
theorem sc_made : FnScope ["_law_rows_here"] ["_law_rows_here"] (defScope sMade) := ⟨rfl, rfl, rfl, by decide +kernel, rfl, by decide +kernel, by decide +kernel⟩
theorem ok_made {f C M fi : Addr} {fd fdi : FuncData} (G : Fun K "_law_made" "_law_made" sMade f fd) (B : Pts mg) (T : TxtB K mg C) (MM : Mk K C fi) (OI : FnOk P w K mg base CX0 5 fi fdi ["self", "clauses"] (spBInit K C M)) (bI : Binds K fdi ["self", "clauses"] []) :
    FnOk P w K mg base CX0 7 f fd ["_law_rows_here"] (spMade K C M) := by
  have sc := sc_made
  refine G.ok sc (fun vs H Q E h => ?_) (fun cdv A outer s H vs Q E hr h => ?_)
  · obtain ⟨_, _, rfl, _⟩ := h
    rfl
  · obtain ⟨a, ps, rfl, hS, hrow, cl, few, nam, k⟩ := h
    refine ⟨_, pss_one (ps_ret (pe_make MM OI hr (by rfl) T.mgC bI .nil pass0 (pa_cons (pe_callTy call_list_of (by rfl) B.list boot_list (pa_cons (pv 0) pa_nil)) pa_nil))), ?_⟩
    refine ⟨_, rfl, a, _, rfl, .inl hS, fun l nl => ?_⟩
    refine fun x dx nx ndx ne => ?_
    have s1 := same_new (o := .lst (refs ps)) nl
    have s2 : Same H (upd (upd (upd H l (.lst (refs ps))) dx (.own x)) x (.ins C dx [])) := fun b o e => by
      have e1 := s1 b o e
      rw [upd_ne (ne_of_none e1 nx), upd_ne (ne_of_none e1 ndx)]
      exact e1
    have hl : upd (upd (upd H l (.lst (refs ps))) dx (.own x)) x (.ins C dx []) l = some (.lst (refs ps)) := by
      have e1 : upd H l (.lst (refs ps)) l = some (.lst (refs ps)) := upd_same
      rw [upd_ne (ne_of_none e1 nx), upd_ne (ne_of_none e1 ndx)]
      exact e1
    refine ⟨x, dx, l, ps, rfl, upd_same, hl, rows_same hrow s2, cl, few, nam, fun H' ns far bk nd up mem => ⟨rfl, ?_⟩⟩
    refine k H' x ns (fun b o e => far b o (s2 b o e) fun z => ?_) bk ⟨nd, up, mem⟩
    subst z
    have e1 := s1 _ _ e
    rw [nx] at e1
    cases e1
end
end My
end

section
set_option Elab.async false
set_option linter.all false
set_option maxRecDepth 100000
set_option maxHeartbeats 4000000
namespace My
local macro_rules | `(tactic| walk_at "go") => `(tactic| (repeat (first
  | (refine ⟨_, rfl, ?_⟩)
  | (refine ⟨_, _, rfl, rfl, ?_⟩)
  | (refine ⟨_, _, rfl, ?_⟩)
  | (refine ⟨rfl, ?_⟩)
  | (refine Or.inl ⟨_, rfl, ?_⟩)
  | (refine ⟨_, _, _, _, rfl, rfl, L2.SqL.of (by first | assumption | exact L2.upd_same), rfl, ?_⟩)
  | (refine ⟨_, _, _, _, rfl, rfl, (by first | assumption | exact L2.upd_same), rfl, ?_⟩)
  | (refine And.intro (by first | omega | decide | (unfold L2.CPow; decide) | (unfold L2.CMul; omega) | (unfold L2.CDiv; omega)) ?_))))
open PySem PySem.Spec PyProof.Rows L2 TL MyF MyS MyW RZ MyR
/-- the order of a tree -/
def joinO (i j : Int) : Int := if i = j then i + 1 else if j > i then j else i
def Tr.ord : Tr → Int
  | .leaf _ => 0
  | .node _ x y => joinO x.ord y.ord
theorem bare_two {x y : Str} (h : lowZ x = true) (e : bareS y = x) : y = x ∨ y = oppS x := by
  by_cases n : negS y = true
  · refine .inr ?_
    have eo : oppS x = dash ++ x := if_neg (low_lit3 h).2.2
    rw [eo, ← e]
    refine str_ext ?_
    rw [cps_cat, dash_cps, bare_eq, if_pos n]
    rw [neg_eq] at n
    have q := of_decide_eq_true n
    rw [← q]
    exact (List.take_append_drop 1 _).symm
  · rw [bare_of_pos n] at e
    exact .inl e
section
variable {P : Program} {w : World} {K : PySem.W.Frag} {mg : Str → Option Value} {base : Heap}
/-! ### joined_order -/
abbrev sJoined : Stmt := top 25
def spJoined : Sp := fun vs H Q _ => ∃ i j : Int, vs = [.int i, .int j] ∧ Q (.int (joinO i j)) H
theorem sc_joined : FnScope ["one", "other"] ["one", "other"] (defScope sJoined) := ⟨rfl, rfl, rfl, by decide +kernel, rfl, by decide +kernel, by decide +kernel⟩
theorem ok_joined {f : Addr} {fd : FuncData} (G : Fun K "joined_order" "joined_order" sJoined f fd) (hM : mg "max" = none) : FnOk P w K mg base CX0 1 f fd ["one", "other"] spJoined := by
  have sc := sc_joined
  refine G.ok sc (fun vs H Q E h => ?_) (fun cdv A outer s H vs Q E hr h => ?_)
  · obtain ⟨_, _, rfl, _⟩ := h
    rfl
  · obtain ⟨i, j, rfl, k⟩ := h
    refine ⟨_, pss_cons (ps_if (pt_cmpR op_eq (pv 0) (pv 1) (nomark _)) (pss_one (ps_ret (pe_op op_add (pv 0) pe_int))) pss_nil)
      (pss_one (ps_ret (pe_callB (call_max2 rfl) (by rfl) hM boot_max (pa_cons (pv 0) (pa_cons (pv 1) pa_nil))))), ?_⟩
    refine ⟨_, rfl, _, rfl, rfl, _, rfl, ?_⟩
    have e0 : decide (V.int i = V.int j) = decide (i = j) := by
      by_cases c : i = j
      · rw [decide_eq_true c, c, decide_eq_true rfl]
      · rw [decide_eq_false c, decide_eq_false fun z => c (by injection z)]
    show if decide (V.int i = V.int j) = true then _ else _
    rw [e0]
    unfold joinO at k
    by_cases c : i = j
    · rw [if_pos c] at k
      rw [decide_eq_true c]
      exact iteT ⟨_, rfl, _, _, rfl, rfl, k⟩
    · rw [if_neg c] at k
      rw [decide_eq_false c]
      exact iteF ⟨_, rfl, _, rfl, _, _, rfl, k⟩
/-! ### order_behind_way, place_order -/
abbrev sObw : Stmt := top 29
abbrev sPo : Stmt := top 30
/-- what both are asked -/
structure OnWayB (M : Addr) (H : Hp) (m : Addr) (v : V) (t : Tr) (rows : List (List Str)) (ns part : List Str) : Prop where
  mks : MarksAt M H m rows ns
  gb : GoodB rows ns
  tr : TrAt H v t
  gt : GoodT rows ns part t
  pl : ∀ y ∈ part, LitOf ns y
theorem OnWayB.same {M : Addr} {H H' : Hp} {m : Addr} {v : V} {t : Tr} {rows : List (List Str)} {ns part : List Str} (h : OnWayB M H m v t rows ns part) (s : Same H H') : OnWayB M H' m v t rows ns part :=
  ⟨h.mks.same s, h.gb, TrAt.same s h.tr, h.gt, h.pl⟩
def spObw (M : Addr) (d : Nat) : Sp := fun vs H Q _ => ∃ (m : Addr) (v : V) (t : Tr) (rows : List (List Str)) (ns part : List Str), vs = [.ref m, v, .int ((maskS ns part : Nat) : Int)] ∧ OnWayB M H m v t rows ns part ∧ t.dep ≤ d ∧ ∀ H', Same H H' → Q (.int t.ord) H'
def spPo (M : Addr) (d : Nat) : Sp := fun vs H Q _ => ∃ (m : Addr) (v : V) (t : Tr) (rows : List (List Str)) (ns part : List Str), vs = [.ref m, v, .int ((maskS ns part : Nat) : Int)] ∧ OnWayB M H m v t rows ns part ∧ t.dep ≤ d ∧ t.isNode = true ∧ ∀ H', Same H H' → Q (.int t.ord) H'
theorem sc_obw : FnScope ["marks", "value", "way", "broken"] ["marks", "value", "way"] (defScope sObw) := ⟨rfl, rfl, rfl, by decide +kernel, rfl, by decide +kernel, by decide +kernel⟩
theorem ok_obw {l d : Nat} {f M : Addr} {fd : FuncData} (G : Fun K "order_behind_way" "order_behind_way" sObw f fd) (B : Pts mg) (TM : TxtM K mg M) (MR : MT P w K mg base M "row_in" 1 ["self", "value"] (spMRow M)) (hl : 1 ≤ l) (fP : Addr) (dP : FuncData) (mP : mg "place_order" = some (.ref fP)) (kP : PySem.W.keepIn K (.ref fP) = true) (bP : Binds K dP ["marks", "value", "way"] [])
    (PO : FnOk P w K mg base CX0 l fP dP ["marks", "value", "way"] (spPo M d)) : FnOk P w K mg base CX0 (l + 1) f fd ["marks", "value", "way"] (spObw M d) := by
  have sc := sc_obw
  obtain ⟨fR, dR, mR, OR, bR⟩ := MR
  refine G.ok sc (fun vs H Q E h => ?_) (fun cdv A outer s H vs Q E hr h => ?_)
  · obtain ⟨_, _, _, _, _, _, rfl, _⟩ := h
    rfl
  · obtain ⟨m, v, t, rows, ns, part, rfl, W, hd, k⟩ := h
    have hr1 : Room 1 _ := hr.mono (by omega)
    refine ⟨_, pss_cons (ps_if (pt_not (pt_val (pe_callB call_isi (by rfl) B.isinstance boot_isinstance (pa_cons (pv 1) (pa_cons (pe_bltn (v := .ty "tuple") (by rfl) B.tuple boot_tuple rfl) pa_nil))))) (pss_one (ps_ret pe_non)) pss_nil)
      (pss_cons (ps_if (PW.pt (pw_and (pt_cmpR op_eq (pe_callB call_len_seq (by rfl) B.len boot_len (pa_cons (pv 1) pa_nil)) pe_int (nomark _)) (pw_and1 (pt_val (pe_callB call_isi (by rfl) B.isinstance boot_isinstance (pa_cons (pe_ix ix_tup (pv 1) pe_int (fun _ _ => rfl)) (pa_cons (pe_bltn (v := .ty "tuple") (by rfl) B.tuple boot_tuple rfl) pa_nil)))))))
        (pss_one (ps_ret (pe_call PO hr rfl mP kP bP .nil pass0 (pa_cons (pv 0) (pa_cons (pv 1) (pa_cons (pv 2) pa_nil)))))) pss_nil)
      (pss_cons (ps_set (i := 3) sc.nd rfl (Or.inl rfl) (pe_meth (pv 0) TM.cl mR OR hr1 bR .nil pass0 (pa_cons (pv 1) pa_nil)))
      (pss_one (ps_ret (pe_ifExp (PW.pt (pw_or (pt_cmpR op_isN (pv 3) pe_non (nomark _)) (pw_or1 (pt_cmpR op_ne (pe_op op_and (pv 3) (pv 2)) (pv 3) (nomark _))))) pe_non pe_int))))), ?_⟩
    cases t with
    | leaf r =>
      obtain ⟨a, rfl, h, lr, len⟩ := W.tr
      obtain ⟨hin, hbr⟩ := W.gt
      refine ⟨_, rfl, ?_⟩
      refine ⟨.ref a, .ty "tuple", _, _, true, rfl, .ty "tuple", tup_ty (SqT.of h), kit_ty (by decide +kernel), ?_⟩
      refine ⟨_, rfl, iteF ?_⟩
      obtain ⟨dx, db, ds, dr, hm, dt⟩ := id W.mks
      have key : maskS ns (r.map oppS) &&& maskS ns part = maskS ns (r.map oppS) := mask_sub fun y hy => by
        obtain ⟨z, hz, rfl⟩ := List.mem_map.mp hy
        exact of_decide_eq_true (List.all_eq_true.mp hbr z hz)
      have e9 : (!decide (V.int (Builtin.bitAnd ((maskS ns (r.map oppS) : Nat) : Int) ((maskS ns part : Nat) : Int)) = V.int ((maskS ns (r.map oppS) : Nat) : Int))) = false := by
        rw [and_nat, key]
        simp
      have none4 : ∀ {z : Str}, ¬ z = "bits" → ¬ z = "sides" → ¬ z = "breaking" → ¬ z = "evens" → (fldsM db ds dr ((evenS ns.length : Nat) : Int)).lookup z = none := fun a b c d => fm_none _ _ _ _ a b c d
      refine ⟨_, rfl, a, _, rfl, .inr (SqT.of h), ?_⟩
      refine ⟨rfl, _, rfl, ?_⟩
      by_cases h3 : r.length = 3
      · have e3 : decide (V.int (((r.map V.str).length : Nat) : Int) = V.int 3) = true := by
          rw [List.length_map, h3]
          rfl
        obtain ⟨r0, r1, r2, rfl⟩ : ∃ r0 r1 r2, r = [r0, r1, r2] := by
          match r, h3 with
          | [r0, r1, r2], _ => exact ⟨r0, r1, r2, rfl⟩
        rw [e3]
        refine iteT ?_
        refine ⟨_, rfl, a, _, 1, .str r1, rfl, rfl, SqT.of h, rfl, ?_⟩
        refine ⟨.str r1, .ty "tuple", _, _, false, rfl, .ty "tuple", .base (.str r1), kit_ty (by decide +kernel), ?_⟩
        refine ⟨_, rfl, iteF ?_⟩
        refine ⟨_, rfl, m, dx, _, rfl, hm, none4 (by decide +kernel) (by decide +kernel) (by decide +kernel) (by decide +kernel), _, rfl, m, a, [r0, r1, r2], rows, ns, rfl, W.mks, h, by omega, fun H2 s2 => ?_⟩
        rw [if_pos hin]
        refine ⟨_, rfl, rfl, _, rfl, iteF ?_⟩
        refine ⟨_, rfl, _, rfl, _, _, rfl, rfl, _, rfl, rfl, _, rfl, ?_⟩
        rw [e9]
        exact iteF (k H2 s2)
      · have e3 : decide (V.int (((r.map V.str).length : Nat) : Int) = V.int 3) = false := by
          rw [List.length_map]
          exact decide_eq_false fun z => h3 (by injection z with z; omega)
        rw [e3]
        refine iteF ?_
        refine ⟨_, rfl, m, dx, _, rfl, hm, none4 (by decide +kernel) (by decide +kernel) (by decide +kernel) (by decide +kernel), _, rfl, m, a, r, rows, ns, rfl, W.mks, h, by omega, fun H2 s2 => ?_⟩
        rw [if_pos hin]
        refine ⟨_, rfl, rfl, _, rfl, iteF ?_⟩
        refine ⟨_, rfl, _, rfl, _, _, rfl, rfl, _, rfl, rfl, _, rfl, ?_⟩
        rw [e9]
        exact iteF (k H2 s2)
    | node n x y =>
      obtain ⟨a, u, z, rfl, h, ln, hx, hy⟩ := id W.tr
      obtain ⟨b, xs, rfl, hb⟩ := hx.tup
      refine ⟨_, rfl, ?_⟩
      refine ⟨.ref a, .ty "tuple", _, _, true, rfl, .ty "tuple", tup_ty (SqT.of h), kit_ty (by decide +kernel), ?_⟩
      refine ⟨_, rfl, iteF ?_⟩
      refine ⟨_, rfl, a, _, rfl, .inr (SqT.of h), ?_⟩
      refine ⟨rfl, _, rfl, ?_⟩
      refine iteT ?_
      refine ⟨_, rfl, a, _, 1, .ref b, rfl, rfl, SqT.of h, rfl, ?_⟩
      refine ⟨.ref b, .ty "tuple", _, _, true, rfl, .ty "tuple", tup_ty (SqT.of hb), kit_ty (by decide +kernel), ?_⟩
      refine ⟨_, rfl, iteT ?_⟩
      exact ⟨_, rfl, _, rfl, _, rfl, m, .ref a, .node n x y, rows, ns, part, rfl, W, hd, rfl, k⟩
theorem sc_po : FnScope ["marks", "value", "way", "name", "high", "low", "sides", "one", "other"] ["marks", "value", "way"] (defScope sPo) := ⟨rfl, rfl, rfl, by decide +kernel, rfl, by decide +kernel, by decide +kernel⟩
theorem ok_po {l d : Nat} {f M : Addr} {fd : FuncData} (G : Fun K "place_order" "place_order" sPo f fd) (TM : TxtM K mg M) (MS : MT P w K mg base M "sides_of" 1 ["self", "value", "bits"] (spMSides K M)) (FJ : FN P w K mg base "joined_order" 1 ["one", "other"] spJoined) (hl : 1 ≤ l)
    (FO : FN P w K mg base "order_behind_way" l ["marks", "value", "way"] (spObw M d)) : FnOk P w K mg base CX0 (l + 1) f fd ["marks", "value", "way"] (spPo M (d + 1)) := by
  have sc := sc_po
  obtain ⟨fS, dS, mS, OS, bS⟩ := MS
  obtain ⟨fJ, dJ, mJ, kJ, OJ, bJ⟩ := FJ
  obtain ⟨fO, dO, mO, kO, OO, bO⟩ := FO
  refine G.ok sc (fun vs H Q E h => ?_) (fun cdv A outer s H vs Q E hr h => ?_)
  · obtain ⟨_, _, _, _, _, _, rfl, _⟩ := h
    rfl
  · obtain ⟨m, v, t, rows, ns, part, rfl, W, hd, hn, k⟩ := h
    have hr1 : Room 1 _ := hr.mono (by omega)
    cases t with
    | leaf r => cases hn
    | node n x y =>
      obtain ⟨a, u, z, rfl, h, ln, hx, hy⟩ := id W.tr
      obtain ⟨g1, g2, g3, gx, gy⟩ := id W.gt
      have hdx : x.dep ≤ d ∧ y.dep ≤ d := by
        have hd2 : max x.dep y.dep + 1 ≤ d + 1 := hd
        omega
      refine ⟨_, pss_cons (ps_asg (pv 1) (pg_tup (by rfl) (pgs_cons (pg_name (i := 3) sc.nd rfl (Or.inl rfl)) (pgs_cons (pg_name (i := 4) sc.nd rfl (Or.inl rfl)) (pgs_cons (pg_name (i := 5) sc.nd rfl (Or.inl rfl)) pgs_nil)))))
        (pss_cons (ps_set (i := 6) sc.nd rfl (Or.inl rfl) (pe_meth (pv 0) TM.cl mS OS hr1 bS .nil pass0 (pa_cons (pv 3) (pa_cons (pv 2) pa_nil))))
        (pss_cons (ps_if (pt_cmpR op_isN (pv 6) pe_non (nomark _)) (pss_one (ps_ret pe_non)) pss_nil)
        (pss_cons (ps_set (i := 7) sc.nd rfl (Or.inl rfl) (pe_call OO hr rfl mO kO bO .nil pass0 (pa_cons (pv 0) (pa_cons (pv 4) (pa_cons (pe_op op_or (pv 2) (pe_ix ix_tup (pv 6) pe_int (fun _ _ => rfl))) pa_nil)))))
        (pss_cons (ps_set (i := 8) sc.nd rfl (Or.inl rfl) (pe_ifExp (pt_cmpR op_isN (pv 7) pe_non (nomark _)) pe_non (pe_call OO hr rfl mO kO bO .nil pass0 (pa_cons (pv 0) (pa_cons (pv 5) (pa_cons (pe_op op_or (pv 2) (pe_ix ix_tup (pv 6) pe_int (fun _ _ => rfl))) pa_nil))))))
        (pss_one (ps_ret (pe_ifExp (pt_cmpR op_isN (pv 8) pe_non (nomark _)) pe_non (pe_call OJ hr1 rfl mJ kJ bJ .nil pass0 (pa_cons (pv 7) (pa_cons (pv 8) pa_nil)))))))))), ?_⟩
      refine ⟨_, rfl, a, _, rfl, SqT.of h, rfl, ?_⟩
      refine ⟨_, _, rfl, _, _, rfl, _, _, rfl, rfl, ?_⟩
      obtain ⟨dx, db, ds, dr, hm, dt⟩ := id W.mks
      have free : ∀ q ∈ part, bareS q ∈ ns ∧ bareS q ≠ n := fun q hq => ⟨(W.pl q hq).2, fun e => by
        rcases bare_two ln e with rfl | rfl
        · exact g2 hq
        · exact g3 hq⟩
      have ln8 := low_short ln
      refine ⟨_, rfl, m, dx, _, rfl, hm, fm_none _ _ _ _ (by decide +kernel) (by decide +kernel) (by decide +kernel) (by decide +kernel), _, rfl, _, rfl, m, .str n, maskS ns part, rows, ns, rfl, W.mks, .inl ⟨n, rfl, by rw [sizeLine_eq]; omega⟩, fun n' en hn' _ H2 p s2 np hp => ?_, fun no => absurd (side_free g1 free) (no n rfl g1)⟩
      injection en with en
      subst en
      refine ⟨_, rfl, rfl, _, rfl, iteF ?_⟩
      have o1 : Builtin.bitOr ((maskS ns part : Nat) : Int) ((2 ^ (2 * ns.idxOf n) : Nat) : Int) = ((maskS ns (part ++ [n]) : Nat) : Int) := by rw [or_nat, mask_snoc, litB_pos ln]
      have o2 : Builtin.bitOr ((maskS ns part : Nat) : Int) ((2 ^ (2 * ns.idxOf n + 1) : Nat) : Int) = ((maskS ns (part ++ [oppS n]) : Nat) : Int) := by rw [or_nat, mask_snoc, litB_neg ln]
      have lln := low_lit3 ln
      have W2 := W.same s2
      refine ⟨_, rfl, _, rfl, _, rfl, _, rfl, p, _, 0, _, rfl, rfl, SqT.of hp, rfl, _, _, rfl, rfl, ?_⟩
      refine ⟨m, u, x, rows, ns, part ++ [n], congrArg (fun q => [V.ref m, u, V.int q]) o1, ⟨W2.mks, W2.gb, TrAt.same s2 hx, gx, fun q hq => ?_⟩, hdx.1, fun H3 s3 => ?_⟩
      · rcases List.mem_append.mp hq with hq | hq
        · exact W.pl q hq
        · rw [List.mem_singleton.mp hq]
          exact ⟨lln.1, by rw [lln.2.1]; exact g1⟩
      refine ⟨_, rfl, rfl, _, rfl, iteF ?_⟩
      have W3 := W2.same s3
      refine ⟨_, rfl, _, rfl, _, rfl, _, rfl, p, _, 1, _, rfl, rfl, SqT.of (s3 _ _ hp), rfl, _, _, rfl, rfl, ?_⟩
      refine ⟨m, z, y, rows, ns, part ++ [oppS n], congrArg (fun q => [V.ref m, z, V.int q]) o2, ⟨W3.mks, W3.gb, TrAt.same (same_trans s2 s3) hy, gy, fun q hq => ?_⟩, hdx.2, fun H4 s4 => ?_⟩
      · rcases List.mem_append.mp hq with hq | hq
        · exact W.pl q hq
        · rw [List.mem_singleton.mp hq]
          have eo : oppS n = dash ++ n := if_neg lln.2.2
          obtain ⟨n2, b2⟩ := dash_back lln.2.2
          rw [← eo] at n2 b2
          refine ⟨?_, by rw [b2]; exact g1⟩
          unfold litS
          rw [b2]
          exact ln
      refine ⟨_, rfl, rfl, _, rfl, iteF ?_⟩
      exact ⟨_, rfl, _, rfl, _, _, rfl, k H4 (same_trans s2 (same_trans s3 s4))⟩
end
end My
end

section
set_option Elab.async false
set_option linter.all false
set_option maxRecDepth 100000
set_option maxHeartbeats 4000000
namespace My
local macro_rules | `(tactic| walk_at "go") => `(tactic| (repeat (first
  | (refine ⟨_, rfl, ?_⟩)
  | (refine ⟨_, _, rfl, rfl, ?_⟩)
  | (refine ⟨_, _, rfl, ?_⟩)
  | (refine ⟨rfl, ?_⟩)
  | (refine Or.inl ⟨_, rfl, ?_⟩)
  | (refine ⟨_, _, _, _, rfl, rfl, L2.SqL.of (by first | assumption | exact L2.upd_same), rfl, ?_⟩)
  | (refine ⟨_, _, _, _, rfl, rfl, (by first | assumption | exact L2.upd_same), rfl, ?_⟩)
  | (refine And.intro (by first | omega | decide | (unfold L2.CPow; decide) | (unfold L2.CMul; omega) | (unfold L2.CDiv; omega)) ?_))))
open PySem PySem.Spec PyProof.Rows L2 TL MyF MyS MyW RZ MyR
section
variable {P : Program} {w : World} {K : PySem.W.Frag} {mg : Str → Option Value} {base : Heap}
/-! ### taken -/
abbrev sTaken : Stmt := top 34
def spTaken (K : PySem.W.Frag) : Sp := fun vs H Q _ => ∃ (v : V) (p : Addr) (t : Tr) (part : List Str), vs = [v, .ref p] ∧ TrAt H v t ∧ t.isNode = true ∧ Sq K H p (part.map V.str) ∧ ∀ z, TrAt H z (t.took part) → Q z H
theorem sc_taken : FnScope ["tree", "part", "name", "high", "low"] ["tree", "part"] (defScope sTaken) := ⟨rfl, rfl, rfl, by decide +kernel, rfl, by decide +kernel, by decide +kernel⟩
theorem ok_taken {f : Addr} {fd : FuncData} (G : Fun K "taken" "taken" sTaken f fd) : FnOk P w K mg base CX0 1 f fd ["tree", "part"] (spTaken K) := by
  have sc := sc_taken
  refine G.ok sc (fun vs H Q E h => ?_) (fun cdv A outer s H vs Q E hr h => ?_)
  · obtain ⟨_, _, _, _, rfl, _⟩ := h
    rfl
  · obtain ⟨v, p, t, part, rfl, ht, nd, hp, k⟩ := h
    cases t with
    | leaf r => cases nd
    | node n x y =>
      obtain ⟨a, u, z, rfl, h, ln, hx, hy⟩ := ht
      refine ⟨_, pss_cons (ps_asg (pv 0) (pg_tup (by rfl) (pgs_cons (pg_name (i := 2) sc.nd rfl (Or.inl rfl)) (pgs_cons (pg_name (i := 3) sc.nd rfl (Or.inl rfl)) (pgs_cons (pg_name (i := 4) sc.nd rfl (Or.inl rfl)) pgs_nil)))))
        (pss_one (ps_ret (pe_ifExp (pt_cmpR op_in_seq (pv 2) (pv 1) (by rfl)) (pv 3) (pv 4)))), ?_⟩
      refine ⟨_, rfl, a, _, rfl, SqT.of h, rfl, ?_⟩
      refine ⟨_, _, rfl, _, _, rfl, _, _, rfl, rfl, ?_⟩
      refine ⟨_, rfl, _, rfl, p, _, rfl, hp, rfl, flat_strs part, ?_⟩
      refine ⟨_, rfl, ?_⟩
      rw [inV_strs]
      by_cases m : n ∈ part
      · rw [decide_eq_true m]
        refine iteT ⟨_, rfl, k u ?_⟩
        show TrAt H u (if n ∈ part then x else y)
        rw [if_pos m]
        exact hx
      · rw [decide_eq_false m]
        refine iteF ⟨_, rfl, k z ?_⟩
        show TrAt H z (if n ∈ part then x else y)
        rw [if_neg m]
        exact hy
abbrev sWaysB : Stmt := top 37
def spWaysB (K : PySem.W.Frag) (d : Nat) : Sp := fun vs H Q _ => ∃ (v : V) (p : Addr) (t : Tr) (part : List Str), vs = [v, .ref p] ∧ TrAt H v t ∧ t.dep ≤ d ∧ H p = some (.tup (part.map V.str)) ∧ part.length + d ≤ 1000 ∧ d ≤ 6 ∧ ∀ H' q, Same H H' → NewRows H H' q (t.ways part) → Q (.ref q) H'
theorem sc_waysb : FnScope ["tree", "part", "name", "high", "low"] ["tree", "part"] (defScope sWaysB) := ⟨rfl, rfl, rfl, by decide +kernel, rfl, by decide +kernel, by decide +kernel⟩
theorem ok_waysb {m d : Nat} {f : Addr} {fd : FuncData} (G : Fun K "ways_behind" "ways_behind" sWaysB f fd) (FP : FN P w K mg base "is_place" 2 ["value"] spPlace) (FO : FN P w K mg base "opposite" 2 ["literal"] spOpp) (hm : 2 ≤ m) (mE : mg "ways_behind" = some (.ref f)) (kE : PySem.W.keepIn K (.ref f) = true) (bE : Binds K fd ["tree", "part"] [])
    (OE : d = 0 ∨ ∃ d', d = d' + 1 ∧ FnOk P w K mg base CX0 m f fd ["tree", "part"] (spWaysB K d')) : FnOk P w K mg base CX0 (m + 1) f fd ["tree", "part"] (spWaysB K d) := by
  have sc := sc_waysb
  obtain ⟨fP, dP, mP, kP, OP, bP⟩ := FP
  obtain ⟨fO, dO, mO, kO, OO, bO⟩ := FO
  refine G.ok sc (fun vs H Q E h => ?_) (fun cdv A outer s H vs Q E hr h => ?_)
  · obtain ⟨_, _, _, _, rfl, _⟩ := h
    rfl
  · obtain ⟨v, p, t, part, rfl, ht, hd, hp, few, d6, k⟩ := h
    have hr2 : Room 2 _ := hr.mono (by omega)
    cases t with
    | leaf r =>
      refine ⟨_, pss_cons (ps_if (pt_not (pt_val (pe_call OP hr2 rfl mP kP bP .nil pass0 (pa_cons (pv 0) pa_nil)))) (pss_one (ps_ret (pe_lst (pa_cons (pv 1) pa_nil)))) pss_nil) pss_never, ?_⟩
      refine ⟨_, rfl, v, .leaf r, rfl, ht, fun H1 s1 => ?_⟩
      refine ⟨_, rfl, iteT ?_⟩
      refine ⟨_, rfl, (by show 1 ≤ sizeLine; decide), fun D nD => ?_⟩
      have s2 := same_trans s1 (same_new (o := .lst [V.ref p]) nD)
      exact k _ D s2 ⟨same_free s1 nD, [(p, part)], upd_same, fun q hq => by rw [List.mem_singleton.mp hq]; exact s2 _ _ hp, rfl⟩
    | node n x y =>
      obtain ⟨a, u, z, he, h, ln, hx, hy⟩ := ht
      obtain ⟨d', rfl, OF⟩ : ∃ d', d = d' + 1 ∧ FnOk P w K mg base CX0 m f fd ["tree", "part"] (spWaysB K d') := by
        rcases OE with rfl | z
        · exact absurd hd (by simp [Tr.dep])
        · exact z
      have hdx : x.dep ≤ d' ∧ y.dep ≤ d' := by
        have hd2 : max x.dep y.dep + 1 ≤ d' + 1 := hd
        omega
      refine ⟨_, pss_cons (ps_if (pt_not (pt_val (pe_call OP hr2 rfl mP kP bP .nil pass0 (pa_cons (pv 0) pa_nil)))) pss_never pss_nil)
        (pss_cons (ps_asg (pv 0) (pg_tup (by rfl) (pgs_cons (pg_name (i := 2) sc.nd rfl (Or.inl rfl)) (pgs_cons (pg_name (i := 3) sc.nd rfl (Or.inl rfl)) (pgs_cons (pg_name (i := 4) sc.nd rfl (Or.inl rfl)) pgs_nil)))))
        (pss_one (ps_ret (pe_op op_cat (pe_call OF hr rfl mE kE bE .nil pass0 (pa_cons (pv 3) (pa_cons (pe_op op_catA (pv 1) (pe_tup (pa_cons (pv 2) pa_nil))) pa_nil)))
          (pe_call OF hr rfl mE kE bE .nil pass0 (pa_cons (pv 4) (pa_cons (pe_op op_catA (pv 1) (pe_tup (pa_cons (pe_call OO hr2 rfl mO kO bO .nil pass0 (pa_cons (pv 2) pa_nil)) pa_nil))) pa_nil))))))), ?_⟩
      refine ⟨_, rfl, v, .node n x y, rfl, ⟨a, u, z, he, h, ln, hx, hy⟩, fun H1 s1 => ?_⟩
      refine ⟨_, rfl, iteF ?_⟩
      subst he
      refine ⟨_, rfl, a, _, rfl, SqT.of (s1 _ _ h), rfl, ?_⟩
      refine ⟨_, _, rfl, _, _, rfl, _, _, rfl, rfl, ?_⟩
      have lenp : (part.map V.str).length + 1 ≤ sizeLine := by rw [List.length_map, sizeLine_eq]; omega
      refine ⟨_, rfl, _, rfl, _, rfl, (by show 1 ≤ sizeLine; decide), fun t1 nt1 => ?_⟩
      have s3 := same_trans s1 (same_new (o := .tup [V.str n]) nt1)
      refine cat_snoc (SqT.of (s3 _ _ hp)) upd_same lenp fun H4 p4 s4 h4 => ?_
      have s34 := same_trans s3 s4
      refine ⟨u, p4, x, part ++ [n], rfl, hx.same s34, hdx.1, by rw [List.map_append]; exact h4, by rw [List.length_append, List.length_singleton]; omega, by omega, fun H5 q5 s5 tl5 => ?_⟩
      have s45 := same_trans s34 s5
      refine ⟨_, rfl, _, rfl, _, rfl, n, rfl, by have := low_short ln; rw [sizeLine_eq]; omega, (by show 1 ≤ sizeLine; decide), fun t2 nt2 => ?_⟩
      have s56 := same_new (o := .tup [V.str (oppS n)]) nt2
      have s6 := same_trans s45 s56
      refine cat_snoc (SqT.of (s6 _ _ hp)) upd_same lenp fun H7 p7 s7 h7 => ?_
      have s67 := same_trans s6 s7
      refine ⟨z, p7, y, part ++ [oppS n], rfl, hy.same s67, hdx.2, by rw [List.map_append]; exact h7, by rw [List.length_append, List.length_singleton]; omega, by omega, fun H8 q8 s8 tl8 => ?_⟩
      obtain ⟨nq5, ts, e5, r5, m5⟩ := tl5
      obtain ⟨nq8, us, e8, r8, m8⟩ := tl8
      have s58 := same_trans s56 (same_trans s7 s8)
      have l5 : ts.length ≤ 2 ^ 6 := by
        have := ways_len (part := part ++ [n]) (t := x) (d := 6) (by omega)
        rw [← m5, List.length_map] at this
        exact this
      have l8 : us.length ≤ 2 ^ 6 := by
        have := ways_len (part := part ++ [oppS n]) (t := y) (d := 6) (by omega)
        rw [← m8, List.length_map] at this
        exact this
      refine ⟨q5, q8, _, _, rfl, rfl, s58 _ _ e5, e8, ?_, fun p9 np9 => ?_⟩
      · rw [refs, refs, List.length_map, List.length_map, sizeLine_eq]
        have : (2 : Nat) ^ 6 = 64 := rfl
        omega
      · have s9 := same_trans (same_trans s67 s8) (same_new (o := .lst (refs ts ++ refs us)) np9)
        have s59 := same_trans s58 (same_new (o := .lst (refs ts ++ refs us)) np9)
        refine k _ p9 s9 ⟨same_free (same_trans s67 s8) np9, ts ++ us, ?_, fun q hq => ?_, ?_⟩
        · rw [upd_same]
          show _ = some (HO.lst ((ts ++ us).map _))
          rw [List.map_append]
          rfl
        · rcases List.mem_append.mp hq with hq | hq
          · exact s59 _ _ (r5 q hq)
          · exact (same_new np9) _ _ (r8 q hq)
        · rw [List.map_append, m5, m8]
          rfl
/-! ### ways_to_leaves, heights -/
end
end My
end

section
set_option Elab.async false
set_option linter.all false
set_option maxRecDepth 100000
set_option maxHeartbeats 4000000
namespace My
local macro_rules | `(tactic| walk_at "go") => `(tactic| (repeat (first
  | (refine ⟨_, rfl, ?_⟩)
  | (refine ⟨_, _, rfl, rfl, ?_⟩)
  | (refine ⟨_, _, rfl, ?_⟩)
  | (refine ⟨rfl, ?_⟩)
  | (refine Or.inl ⟨_, rfl, ?_⟩)
  | (refine ⟨_, _, _, _, rfl, rfl, L2.SqL.of (by first | assumption | exact L2.upd_same), rfl, ?_⟩)
  | (refine ⟨_, _, _, _, rfl, rfl, (by first | assumption | exact L2.upd_same), rfl, ?_⟩)
  | (refine And.intro (by first | omega | decide | (unfold L2.CPow; decide) | (unfold L2.CMul; omega) | (unfold L2.CDiv; omega)) ?_))))
open PySem PySem.Spec PyProof.Rows L2 TL MyF MyS MyW RZ MyR
section
variable {P : Program} {w : World} {K : PySem.W.Frag} {mg : Str → Option Value} {base : Heap}
/-! ### order_if_tree, need_tree -/
theorem ok_po0 {f M : Addr} {fd : FuncData} (G : Fun K "place_order" "place_order" sPo f fd) : FnOk P w K mg base CX0 1 f fd ["marks", "value", "way"] (spPo M 0) := by
  refine G.ok sc_po (fun vs H Q E h => ?_) (fun cdv A outer s H vs Q E hr h => ?_)
  · obtain ⟨_, _, _, _, _, _, rfl, _⟩ := h
    rfl
  · obtain ⟨m, v, t, rows, ns, part, rfl, W, hd, hn, k⟩ := h
    exfalso
    cases t with
    | leaf r => cases hn
    | node n x y =>
      have hd2 : max x.dep y.dep + 1 ≤ 0 := hd
      omega
abbrev sOit : Stmt := top 28
/-- a book and a right tree of it -/
def OnTree (C M : Addr) (vs : List V) (H : Hp) (t : Tr) : Prop := ∃ (b : Addr) (v : V) (rows : List (List Str)) (ns : List Str), vs = [.ref b, v] ∧ BookAt C M H b rows ns ∧ TrAt H v t ∧ GoodT rows ns [] t ∧ t.dep ≤ 6
def spOit (C M : Addr) : Sp := fun vs H Q _ => ∃ t, OnTree C M vs H t ∧ ∀ H', Keep C M H H' → Q (.int t.ord) H'
theorem sc_oit : FnScope ["book", "value"] ["book", "value"] (defScope sOit) := ⟨rfl, rfl, rfl, by decide +kernel, rfl, by decide +kernel, by decide +kernel⟩
theorem BookAt.good {C M : Addr} {H : Hp} {b : Addr} {rows : List (List Str)} {ns : List Str} (h : BookAt C M H b rows ns) : GoodB rows ns := by
  obtain ⟨dx, tr, tn, qs, mv, tv, h1, h2, h3, h4, h5, h6, h7⟩ := h
  exact h7
theorem BookAt.ins {C M : Addr} {H : Hp} {b : Addr} {rows : List (List Str)} {ns : List Str} (h : BookAt C M H b rows ns) : ∃ dx tr tn mv tv, H b = some (.ins C dx (fldsB tr tn mv tv)) := by
  obtain ⟨dx, tr, tn, qs, mv, tv, h1, h2, h3, h4, h5, h6, h7⟩ := h
  exact ⟨dx, tr, tn, mv, tv, h1⟩
theorem ok_oit {f C M : Addr} {fd : FuncData} (G : Fun K "order_if_tree" "order_if_tree" sOit f fd) (T : TxtB K mg C) (MM : MT P w K mg base C "marks" 5 ["self"] (spBMarks C M)) (FO : FN P w K mg base "order_behind_way" 14 ["marks", "value", "way"] (spObw M 6)) :
    FnOk P w K mg base CX0 15 f fd ["book", "value"] (spOit C M) := by
  have sc := sc_oit
  obtain ⟨fM, dM, mM, OM, bM⟩ := MM
  obtain ⟨fO, dO, mO, kO, OO, bO⟩ := FO
  refine G.ok sc (fun vs H Q E h => ?_) (fun cdv A outer s H vs Q E hr h => ?_)
  · obtain ⟨_, ⟨_, _, _, _, rfl, _⟩, _⟩ := h
    rfl
  · obtain ⟨t, ⟨b, v, rows, ns, rfl, hb, ht, gt, hd⟩, k⟩ := h
    have hr5 : Room 5 _ := hr.mono (by decide)
    refine ⟨_, pss_one (ps_ret (pe_call OO hr rfl mO kO bO .nil pass0 (pa_cons (pe_meth0 (pv 0) T.cl mM OM hr5 bM .nil pass0) (pa_cons (pv 1) (pa_cons pe_int pa_nil))))), ?_⟩
    obtain ⟨dx, tr, tn, mv, tv, h1⟩ := hb.ins
    refine ⟨_, rfl, b, dx, _, rfl, h1, fb_none _ _ _ _ (by decide +kernel) (by decide +kernel) (by decide +kernel) (by decide +kernel), b, rows, ns, rfl, hb, fun H1 m k1 hm => ?_⟩
    exact ⟨_, rfl, m, v, t, rows, ns, [], rfl, ⟨hm, hb.good, k1.tree ht, gt, fun y hy => by cases hy⟩, hd, fun H2 s2 => k H2 (k1.trans (Keep.of s2))⟩
abbrev sNeedT : Stmt := top 31
def spNeedT (C M : Addr) : Sp := fun vs H Q _ => ∃ t, OnTree C M vs H t ∧ ∀ H', Keep C M H H' → Q .non H'
theorem sc_needt : FnScope ["book", "tree"] ["book", "tree"] (defScope sNeedT) := ⟨rfl, rfl, rfl, by decide +kernel, rfl, by decide +kernel, by decide +kernel⟩
theorem ok_needt {f C M : Addr} {fd : FuncData} (G : Fun K "need_tree" "need_tree" sNeedT f fd) (FT : FN P w K mg base "order_if_tree" 15 ["book", "value"] (spOit C M)) : FnOk P w K mg base CX0 16 f fd ["book", "tree"] (spNeedT C M) := by
  have sc := sc_needt
  obtain ⟨fT, dT, mT, kT, OT, bT⟩ := FT
  refine G.ok sc (fun vs H Q E h => ?_) (fun cdv A outer s H vs Q E hr h => ?_)
  · obtain ⟨_, ⟨_, _, _, _, rfl, _⟩, _⟩ := h
    rfl
  · obtain ⟨t, ⟨b, v, rows, ns, rfl, W⟩, k⟩ := h
    refine ⟨_, pss_one (ps_if (pt_cmpR op_isN (pe_call OT hr rfl mT kT bT .nil pass0 (pa_cons (pv 0) (pa_cons (pv 1) pa_nil))) pe_non (nomark _)) (pss_one ps_never) pss_nil), ?_⟩
    refine ⟨_, rfl, _, rfl, t, ⟨b, v, rows, ns, rfl, W⟩, fun H2 s2 => ?_⟩
    exact ⟨rfl, _, rfl, iteF (k H2 s2)⟩
/-! ### is_part, need_part, need_whole -/
abbrev sIsPart : Stmt := top 23
def OnPart (K : PySem.W.Frag) (C M : Addr) (vs : List V) (H : Hp) (ns ys : List Str) : Prop := ∃ (b a : Addr) (rows : List (List Str)), vs = [.ref b, .ref a] ∧ BookAt C M H b rows ns ∧ ClAt K H a ys ∧ (∀ y ∈ ys, bareS y ∈ ns)
def spPart (K : PySem.W.Frag) (C M : Addr) (z : V) : Sp := fun vs H Q _ => ∃ ns ys, OnPart K C M vs H ns ys ∧ ∀ H', Keep C M H H' → Q z H'
theorem sc_ispart : FnScope ["book", "value"] ["book", "value"] (defScope sIsPart) := ⟨rfl, rfl, rfl, by decide +kernel, rfl, by decide +kernel, by decide +kernel⟩
theorem ok_ispart {f C M : Addr} {fd : FuncData} (G : Fun K "is_part" "is_part" sIsPart f fd) (T : TxtB K mg C) (TM : TxtM K mg M) (FB : FN P w K mg base "need_book" 1 ["book"] (spNeedB C M)) (MM : MT P w K mg base C "marks" 5 ["self"] (spBMarks C M)) (MP : MT P w K mg base M "part_in" 1 ["self", "value"] (spMPart K M)) :
    FnOk P w K mg base CX0 6 f fd ["book", "value"] (spPart K C M (.bl true)) := by
  have sc := sc_ispart
  obtain ⟨fB, dB, mB, kB, OB, bB⟩ := FB
  obtain ⟨fM, dM, mM, OM, bM⟩ := MM
  obtain ⟨fP, dP, mP, OP, bP⟩ := MP
  refine G.ok sc (fun vs H Q E h => ?_) (fun cdv A outer s H vs Q E hr h => ?_)
  · obtain ⟨_, _, ⟨_, _, _, rfl, _⟩, _⟩ := h
    rfl
  · obtain ⟨ns, ys, ⟨b, a, rows, rfl, hb, cl, sub⟩, k⟩ := h
    have hr1 : Room 1 _ := hr.mono (by decide)
    refine ⟨_, pss_cons (ps_expr (pe_call OB hr1 rfl mB kB bB .nil pass0 (pa_cons (pv 0) pa_nil)))
      (pss_one (ps_ret (pe_cmpR op_notN (pe_meth (pe_meth0 (pv 0) T.cl mM OM hr bM .nil pass0) TM.cl mP OP hr1 bP .nil pass0 (pa_cons (pv 1) pa_nil)) pe_non (nomark _)))), ?_⟩
    refine ⟨_, rfl, b, rows, ns, rfl, hb, ?_⟩
    obtain ⟨dx, tr, tn, mv, tv, h1⟩ := hb.ins
    refine ⟨_, rfl, b, dx, _, rfl, h1, fb_none _ _ _ _ (by decide +kernel) (by decide +kernel) (by decide +kernel) (by decide +kernel), b, rows, ns, rfl, hb, fun H1 m k1 hm => ?_⟩
    obtain ⟨dx', db, ds, dr, hm1, dt⟩ := id hm
    refine ⟨m, dx', _, rfl, hm1, fm_none _ _ _ _ (by decide +kernel) (by decide +kernel) (by decide +kernel) (by decide +kernel), _, rfl, m, a, ys, rows, ns, rfl, hm, k1.cl cl, sub, fun q => ?_⟩
    exact ⟨rfl, k H1 k1⟩
abbrev sNeedP : Stmt := top 22
theorem sc_needp : FnScope ["book", "part"] ["book", "part"] (defScope sNeedP) := ⟨rfl, rfl, rfl, by decide +kernel, rfl, by decide +kernel, by decide +kernel⟩
theorem ok_needp {f C M : Addr} {fd : FuncData} (G : Fun K "need_part" "need_part" sNeedP f fd) (FT : FN P w K mg base "is_part" 6 ["book", "value"] (spPart K C M (.bl true))) : FnOk P w K mg base CX0 7 f fd ["book", "part"] (spPart K C M .non) := by
  have sc := sc_needp
  obtain ⟨fT, dT, mT, kT, OT, bT⟩ := FT
  refine G.ok sc (fun vs H Q E h => ?_) (fun cdv A outer s H vs Q E hr h => ?_)
  · obtain ⟨_, _, ⟨_, _, _, rfl, _⟩, _⟩ := h
    rfl
  · obtain ⟨ns, ys, ⟨b, a, rows, rfl, W⟩, k⟩ := h
    refine ⟨_, pss_one (ps_if (pt_not (pt_val (pe_call OT hr rfl mT kT bT .nil pass0 (pa_cons (pv 0) (pa_cons (pv 1) pa_nil))))) (pss_one ps_never) pss_nil), ?_⟩
    refine ⟨_, rfl, _, rfl, ns, ys, ⟨b, a, rows, rfl, W⟩, fun H2 s2 => ?_⟩
    exact ⟨_, rfl, iteF (k H2 s2)⟩
abbrev sWhole : Stmt := top 32
def spWhole (K : PySem.W.Frag) (C M : Addr) : Sp := fun vs H Q _ => ∃ ns ys, OnPart K C M vs H ns ys ∧ ys.length = ns.length ∧ ∀ H', Keep C M H H' → Q .non H'
theorem sc_whole : FnScope ["book", "part"] ["book", "part"] (defScope sWhole) := ⟨rfl, rfl, rfl, by decide +kernel, rfl, by decide +kernel, by decide +kernel⟩
theorem ok_whole {f C M : Addr} {fd : FuncData} (G : Fun K "need_whole" "need_whole" sWhole f fd) (B : Pts mg) (T : TxtB K mg C) (FP : FN P w K mg base "need_part" 7 ["book", "part"] (spPart K C M .non)) (MV : MT P w K mg base C "variables" 1 ["self"] (spBVar C M)) : FnOk P w K mg base CX0 8 f fd ["book", "part"] (spWhole K C M) := by
  have sc := sc_whole
  obtain ⟨fP, dP, mP, kP, OP, bP⟩ := FP
  obtain ⟨fV, dV, mV, OV, bV⟩ := MV
  refine G.ok sc (fun vs H Q E h => ?_) (fun cdv A outer s H vs Q E hr h => ?_)
  · obtain ⟨_, _, ⟨_, _, _, rfl, _⟩, _⟩ := h
    rfl
  · obtain ⟨ns, ys, ⟨b, a, rows, rfl, hb, cl, sub⟩, eql, k⟩ := h
    have hr1 : Room 1 _ := hr.mono (by decide)
    refine ⟨_, pss_cons (ps_expr (pe_call OP hr rfl mP kP bP .nil pass0 (pa_cons (pv 0) (pa_cons (pv 1) pa_nil)))) (pss_one (ps_if (pt_cmpR op_ne (pe_callB call_len_seq (by rfl) B.len boot_len (pa_cons (pv 1) pa_nil)) (pe_callB call_len_seq (by rfl) B.len boot_len (pa_cons (pe_meth0 (pv 0) T.cl mV OV hr1 bV .nil pass0) pa_nil)) (nomark _)) (pss_one ps_never) pss_nil)), ?_⟩
    refine ⟨_, rfl, _, rfl, ns, ys, ⟨b, a, rows, rfl, hb, cl, sub⟩, fun H1 s1 => ?_⟩
    have hb1 := s1.book _ _ _ hb
    obtain ⟨dx, tr, tn, mv, tv, i1⟩ := hb1.ins
    refine ⟨_, rfl, a, _, rfl, .inr (s1.sqT cl.1), ?_⟩
    refine ⟨_, rfl, b, dx, _, rfl, i1, fb_none _ _ _ _ (by decide +kernel) (by decide +kernel) (by decide +kernel) (by decide +kernel), b, rows, ns, rfl, hb1, fun H2 q s2 nq hq => ?_⟩
    refine ⟨q, _, rfl, .inl (SqL.of hq), ?_⟩
    refine ⟨rfl, ?_⟩
    have e : (!decide (V.int (((ys.map V.str).length : Nat) : Int) = V.int (((ns.map V.str).length : Nat) : Int))) = false := by
      rw [List.length_map, List.length_map, eql]
      simp
    rw [e]
    exact ⟨_, rfl, iteF (k H2 (s1.trans (Keep.of s2)))⟩
/-- a list that was not there is changed -/
theorem Keep.setL {C M D : Addr} {H H4 : Hp} {l l' : List V} (s : Keep C M H H4) (n : H D = none) (h : H4 D = some (.lst l)) : Keep C M H (upd H4 D (.lst l')) :=
  ⟨fun p o e k => by
    rw [upd_ne (ne_of_none e n)]
    exact s.old p o e k, fun p dx fs e => by
    rw [upd_ne (ne_of_none e n)]
    exact s.ins p dx fs e, fun b rows ns e => (s.book b rows ns e).but (q := D) But.set h⟩
abbrev sLeafAt : Stmt := top 33
/-- a book, a right tree of it, a part-filling of all its variables -/
def OnWay (K : PySem.W.Frag) (C M : Addr) (vs : List V) (H : Hp) (t : Tr) (ys : List Str) : Prop := ∃ (b a : Addr) (v : V) (rows : List (List Str)) (ns : List Str), vs = [.ref b, v, .ref a] ∧ BookAt C M H b rows ns ∧ TrAt H v t ∧ GoodT rows ns [] t ∧ t.dep ≤ 6 ∧
  ClAt K H a ys ∧ (∀ y ∈ ys, bareS y ∈ ns) ∧ ys.length = ns.length
def spLeafAt (K : PySem.W.Frag) (C M : Addr) : Sp := fun vs H Q _ => ∃ t ys, OnWay K C M vs H t ys ∧ ∀ H' z, Keep C M H H' → TrAt H' z (.leaf (t.down ys)) → Q z H'
theorem sc_leafat : FnScope ["book", "tree", "part"] ["book", "tree", "part"] (defScope sLeafAt) := ⟨rfl, rfl, rfl, by decide +kernel, rfl, by decide +kernel, by decide +kernel⟩
theorem ok_leafat {f C M : Addr} {fd : FuncData} (G : Fun K "leaf_at" "leaf_at" sLeafAt f fd) (FB : FN P w K mg base "need_book" 1 ["book"] (spNeedB C M)) (FT : FN P w K mg base "need_tree" 16 ["book", "tree"] (spNeedT C M)) (FW : FN P w K mg base "need_whole" 8 ["book", "part"] (spWhole K C M))
    (FP : FN P w K mg base "is_place" 2 ["value"] spPlace) (FK : FN P w K mg base "taken" 1 ["tree", "part"] (spTaken K)) : FnOk P w K mg base CX0 17 f fd ["book", "tree", "part"] (spLeafAt K C M) := by
  have sc := sc_leafat
  obtain ⟨fB, dB, mB, kB, OB, bB⟩ := FB
  obtain ⟨fT, dT, mT, kT, OT, bT⟩ := FT
  obtain ⟨fW, dW, mW, kW, OW, bW⟩ := FW
  obtain ⟨fP, dP, mP, kP, OP, bP⟩ := FP
  obtain ⟨fK, dK, mK, kK, OK', bK⟩ := FK
  refine G.ok sc (fun vs H Q E h => ?_) (fun cdv A outer s H vs Q E hr h => ?_)
  · obtain ⟨_, _, ⟨_, _, _, _, _, rfl, _⟩, _⟩ := h
    rfl
  · obtain ⟨t, ys, ⟨b, a, v, rows, ns, rfl, hb, ht, gt, hd, cl, sub, eql⟩, k⟩ := h
    have hr1 : Room 1 _ := hr.mono (by decide)
    have hr2 : Room 2 _ := hr.mono (by decide)
    have hr7 : Room 8 _ := hr.mono (by decide)
    refine ⟨_, pss_cons (ps_expr (pe_call OB hr1 rfl mB kB bB .nil pass0 (pa_cons (pv 0) pa_nil))) (pss_cons (ps_expr (pe_call OT hr rfl mT kT bT .nil pass0 (pa_cons (pv 0) (pa_cons (pv 1) pa_nil))))
      (pss_cons (ps_expr (pe_call OW hr7 rfl mW kW bW .nil pass0 (pa_cons (pv 0) (pa_cons (pv 2) pa_nil))))
      (pss_cons (ps_while PassesOwn.never (pt_val (pe_call OP hr2 rfl mP kP bP .nil pass0 (pa_cons (pv 1) pa_nil))) (pss_one (ps_set (i := 1) sc.nd rfl (Or.inl rfl) (pe_call OK' hr1 rfl mK kK bK .nil pass0 (pa_cons (pv 1) (pa_cons (pv 2) pa_nil))))))
      (pss_one (ps_ret (pv 1)))))), ?_⟩
    refine ⟨_, rfl, b, rows, ns, rfl, hb, ?_⟩
    refine ⟨_, rfl, _, rfl, t, ⟨b, v, rows, ns, rfl, hb, ht, gt, hd⟩, fun H1 s1 => ?_⟩
    refine ⟨_, rfl, _, rfl, ns, ys, ⟨b, a, rows, rfl, s1.book _ _ _ hb, s1.cl cl, sub⟩, eql, fun H2 s2 => ?_⟩
    have s12 := s1.trans s2
    refine ⟨fun m σ H3 => ∃ (z : V) (t' : Tr), m = t'.size ∧ σ = [some (.ref b), some z, some (.ref a)] ∧ TrAt H3 z t' ∧ t'.down ys = t.down ys ∧ Keep C M H H3, ⟨t.size, v, t, rfl, rfl, s12.tree ht, rfl, s12⟩, ?_⟩
    rintro m σ H3 ⟨z, t', rfl, rfl, hz, dn, s3⟩
    refine ⟨_, rfl, z, t', rfl, hz, fun H4 s4 => ?_⟩
    refine ⟨_, rfl, ?_⟩
    have s34 := s3.trans (Keep.of s4)
    cases hn : t'.isNode with
    | false =>
      refine iteF ?_
      refine ⟨_, rfl, k H4 z s34 ?_⟩
      cases t' with
      | leaf r =>
        rw [← dn]
        exact hz.same s4
      | node n x y => cases hn
    | true =>
      refine iteT ?_
      refine ⟨fun σ' H' => ∃ (z' : V), σ' = [some (.ref b), some z', some (.ref a)] ∧ TrAt H' z' (t'.took ys) ∧ Keep C M H H', ?_, ?_⟩
      · rintro σ' H' ⟨z', rfl, hz', s'⟩
        exact ⟨_, took_size hn, z', t'.took ys, rfl, rfl, hz', took_down.trans dn, s'⟩
      · refine ⟨_, rfl, _, rfl, z, a, t', ys, rfl, hz.same s4, hn, .inr (s34.sqT cl.1), fun z' hz' => ?_⟩
        exact ⟨z', rfl, hz', s34⟩
/-! ### asked_on -/
abbrev sAsked : Stmt := top 35
def spAsked (K : PySem.W.Frag) (C M : Addr) : Sp := fun vs H Q _ => ∃ t ys, OnWay K C M vs H t ys ∧ ∀ H' p, Keep C M H H' → H p = none → H' p = some (.lst ((t.asks ys).map V.str)) → Q (.ref p) H'
theorem sc_asked : FnScope ["book", "tree", "part", "asked"] ["book", "tree", "part"] (defScope sAsked) := ⟨rfl, rfl, rfl, by decide +kernel, rfl, by decide +kernel, by decide +kernel⟩
theorem ok_asked {f C M : Addr} {fd : FuncData} (G : Fun K "asked_on" "asked_on" sAsked f fd) (FB : FN P w K mg base "need_book" 1 ["book"] (spNeedB C M)) (FT : FN P w K mg base "need_tree" 16 ["book", "tree"] (spNeedT C M)) (FW : FN P w K mg base "need_whole" 8 ["book", "part"] (spWhole K C M))
    (FP : FN P w K mg base "is_place" 2 ["value"] spPlace) (FK : FN P w K mg base "taken" 1 ["tree", "part"] (spTaken K)) : FnOk P w K mg base CX0 17 f fd ["book", "tree", "part"] (spAsked K C M) := by
  have sc := sc_asked
  obtain ⟨fB, dB, mB, kB, OB, bB⟩ := FB
  obtain ⟨fT, dT, mT, kT, OT, bT⟩ := FT
  obtain ⟨fW, dW, mW, kW, OW, bW⟩ := FW
  obtain ⟨fP, dP, mP, kP, OP, bP⟩ := FP
  obtain ⟨fK, dK, mK, kK, OK', bK⟩ := FK
  refine G.ok sc (fun vs H Q E h => ?_) (fun cdv A outer s H vs Q E hr h => ?_)
  · obtain ⟨_, _, ⟨_, _, _, _, _, rfl, _⟩, _⟩ := h
    rfl
  · obtain ⟨t, ys, ⟨b, a, v, rows, ns, rfl, hb, ht, gt, hd, cl, sub, eql⟩, k⟩ := h
    have hr1 : Room 1 _ := hr.mono (by decide)
    have hr2 : Room 2 _ := hr.mono (by decide)
    have hr7 : Room 8 _ := hr.mono (by decide)
    refine ⟨_, pss_cons (ps_expr (pe_call OB hr1 rfl mB kB bB .nil pass0 (pa_cons (pv 0) pa_nil))) (pss_cons (ps_expr (pe_call OT hr rfl mT kT bT .nil pass0 (pa_cons (pv 0) (pa_cons (pv 1) pa_nil))))
      (pss_cons (ps_expr (pe_call OW hr7 rfl mW kW bW .nil pass0 (pa_cons (pv 0) (pa_cons (pv 2) pa_nil))))
      (pss_cons (ps_set (i := 3) sc.nd rfl (Or.inl rfl) (pe_lst pa_nil))
      (pss_cons (ps_while PassesOwn.never (pt_val (pe_call OP hr2 rfl mP kP bP .nil pass0 (pa_cons (pv 1) pa_nil))) (pss_cons (ps_expr (pe_bm PySem.F.plainAttrs_list PySem.F.slot_list_append PySem.F.type_list_append mt_append (pv 3) (pa_cons (pe_ix ix_tup (pv 1) pe_int (fun _ _ => rfl)) pa_nil)))
        (pss_one (ps_set (i := 1) sc.nd rfl (Or.inl rfl) (pe_call OK' hr1 rfl mK kK bK .nil pass0 (pa_cons (pv 1) (pa_cons (pv 2) pa_nil)))))))
      (pss_one (ps_ret (pv 3))))))), ?_⟩
    refine ⟨_, rfl, b, rows, ns, rfl, hb, ?_⟩
    refine ⟨_, rfl, _, rfl, t, ⟨b, v, rows, ns, rfl, hb, ht, gt, hd⟩, fun H1 s1 => ?_⟩
    refine ⟨_, rfl, _, rfl, ns, ys, ⟨b, a, rows, rfl, s1.book _ _ _ hb, s1.cl cl, sub⟩, eql, fun H2 s2 => ?_⟩
    have s12 := s1.trans s2
    refine ⟨Nat.zero_le _, fun D nD => ?_⟩
    have sD := s12.trans (Keep.of (same_new (o := .lst []) nD))
    have nDH := s12.free nD
    refine ⟨fun m σ H3 => ∃ (z : V) (t' : Tr) (pre : List Str), m = t'.size ∧ σ = [some (.ref b), some z, some (.ref a), some (.ref D)] ∧ TrAt H3 z t' ∧ pre ++ t'.asks ys = t.asks ys ∧ H3 D = some (.lst (pre.map V.str)) ∧ Keep C M H H3, ⟨t.size, v, t, [], rfl, rfl, sD.tree ht, rfl, upd_same, sD⟩, ?_⟩
    rintro m σ H3 ⟨z, t', pre, rfl, rfl, hz, dn, hD, s3⟩
    refine ⟨_, rfl, z, t', rfl, hz, fun H4 s4 => ?_⟩
    refine ⟨_, rfl, ?_⟩
    have s34 := s3.trans (Keep.of s4)
    have hD4 := s4 _ _ hD
    cases t' with
    | leaf r =>
      refine iteF ?_
      have e : pre = t.asks ys := by
        rw [← dn]
        show pre = pre ++ []
        rw [List.append_nil]
      exact ⟨_, rfl, k H4 D s34 nDH (e ▸ hD4)⟩
    | node n x y =>
      refine iteT ?_
      have hz4 := hz.same s4
      obtain ⟨c, u, u2, rfl, hc, ln, hx, hy⟩ := id hz4
      have len : pre.length ≤ 6 := by
        have h1 := asks_len (part := ys) t
        rw [← dn, List.length_append] at h1
        omega
      refine ⟨fun σ' H' => ∃ (z' : V), σ' = [some (.ref b), some z', some (.ref a), some (.ref D)] ∧ TrAt H' z' ((Tr.node n x y).took ys) ∧ H' D = some (.lst ((pre ++ [n]).map V.str)) ∧ Keep C M H H', ?_, ?_⟩
      · rintro σ' H' ⟨z', rfl, hz', hD', s'⟩
        refine ⟨_, took_size rfl, z', _, pre ++ [n], rfl, rfl, hz', ?_, hD', s'⟩
        rw [List.append_assoc, ← dn, took_asks]
        rfl
      · have s5 : Keep C M H (upd H4 D (.lst (pre.map V.str ++ [V.str n]))) := Keep.setL s34 nDH hD4
        have hz5 : TrAt (upd H4 D (.lst (pre.map V.str ++ [V.str n]))) (.ref c) (.node n x y) := TrAt.but (q := D) (But.set) hD4 hz4
        refine ⟨_, rfl, .inl ⟨rfl, _, SqL.of hD4⟩, ?_⟩
        refine ⟨_, rfl, c, _, 0, .str n, rfl, rfl, SqT.of hc, rfl, ?_⟩
        refine ⟨D, _, _, rfl, rfl, hD4, by rw [List.length_map, sizeLine_eq]; omega, ?_⟩
        refine ⟨_, rfl, _, rfl, .ref c, a, .node n x y, ys, rfl, hz5, rfl, .inr (s5.sqT cl.1), fun z' hz' => ?_⟩
        refine ⟨z', rfl, hz', ?_, s5⟩
        rw [List.map_append]
        exact upd_same
abbrev sWays : Stmt := top 36
def spWays (K : PySem.W.Frag) (C M : Addr) : Sp := fun vs H Q _ => ∃ t, OnTree C M vs H t ∧ ∀ H' q rows, Keep C M H H' → NewRows H H' q rows → Paired (fun w r => InOrd r w) (t.ways []) rows → Q (.ref q) H'
theorem sc_ways : FnScope ["book", "tree", "way"] ["book", "tree"] (defScope sWays) := ⟨rfl, rfl, rfl, by decide +kernel, rfl, by decide +kernel, by decide +kernel⟩
theorem ok_ways {f C M : Addr} {fd : FuncData} (G : Fun K "ways_to_leaves" "ways_to_leaves" sWays f fd) (B : Pts mg) (FB : FN P w K mg base "need_book" 1 ["book"] (spNeedB C M)) (FT : FN P w K mg base "need_tree" 16 ["book", "tree"] (spNeedT C M)) (FW : FN P w K mg base "ways_behind" 9 ["tree", "part"] (spWaysB K 6)) (FO : FN P w K mg base "in_order" 1 ["literals"] (spOrd K)) :
    FnOk P w K mg base CX0 17 f fd ["book", "tree"] (spWays K C M) := by
  have sc := sc_ways
  obtain ⟨fB, dB, mB, kB, OB, bB⟩ := FB
  obtain ⟨fT, dT, mT, kT, OT, bT⟩ := FT
  obtain ⟨fW, dW, mW, kW, OW, bW⟩ := FW
  obtain ⟨fO, dO, mO, kO, OO, bO⟩ := FO
  refine G.ok sc (fun vs H Q E h => ?_) (fun cdv A outer s H vs Q E hr h => ?_)
  · obtain ⟨_, ⟨_, _, _, _, rfl, _⟩, _⟩ := h
    rfl
  · obtain ⟨t, ⟨b, v, rows, ns, rfl, hb, ht, gt, hd⟩, k⟩ := h
    have hr1 : Room 1 _ := hr.mono (by decide)
    have hr9 : Room 9 _ := hr.mono (by decide)
    refine ⟨_, pss_cons (ps_expr (pe_call OB hr1 rfl mB kB bB .nil pass0 (pa_cons (pv 0) pa_nil))) (pss_cons (ps_expr (pe_call OT hr rfl mT kT bT .nil pass0 (pa_cons (pv 0) (pa_cons (pv 1) pa_nil))))
      (pss_one (ps_ret (pe_lc (own := [("way", 2)]) (g := gName 2) (tt := tYes) rfl sc.nd (pi_list (pe_call OW hr9 rfl mW kW bW .nil pass0 (pa_cons (pv 1) (pa_cons (pe_tup pa_nil) pa_nil))))
        (blkOk_by (N := ["book", "tree", "way"]) (sc := defScope sWays) (by decide +kernel)) (fun _ _ _ _ _ => pg_name (i := 2) sc.nd rfl (Or.inl rfl)) (fun _ _ _ _ _ => pts_nil)
        (fun _ _ _ _ _ => pe_call OO hr1 rfl mO kO bO .nil pass0 (pa_cons (pv 2) pa_nil)))))), ?_⟩
    refine ⟨_, rfl, b, rows, ns, rfl, hb, ?_⟩
    refine ⟨_, rfl, _, rfl, t, ⟨b, v, rows, ns, rfl, hb, ht, gt, hd⟩, fun H1 s1 => ?_⟩
    refine ⟨_, rfl, (by show 0 ≤ sizeLine; decide), fun p np => ?_⟩
    have s2 := s1.trans (Keep.of (same_new (o := .tup []) np))
    refine ⟨v, p, t, [], rfl, s2.tree ht, hd, upd_same, by show 0 + 6 ≤ 1000; decide, by decide, fun H3 q s3 tl => ?_⟩
    obtain ⟨nq, ts, hq, rq, mq⟩ := tl
    have s23 := s2.trans (Keep.of s3)
    have lts : ts.length ≤ 64 := by
      have := ways_len (part := []) (t := t) hd
      rw [← mq, List.length_map] at this
      exact this
    refine ⟨q, rfl, ⟨_, SqL.of hq⟩, ?_⟩
    refine fun D nD => row_lst (g := gName 2) (fun w r => InOrd r w) (SqL.of hq) rq (by rw [sizeLine_eq]; omega) (fun x H4 Ψ hx s4 yes => ?_) (fun _ _ _ _ _ h q => h _ _ q) (fun H4 D' qs s4 nD' h4 r4 pr => ?_) D nD
    · have hxw : x.2 ∈ t.ways [] := mq ▸ List.mem_map.mpr ⟨x, hx, rfl⟩
      have sh := ways_short x.2 hxw
      walk_at "go"
      refine ⟨x.1, x.2, rfl, .inr (SqT.of (rows_same rq s4 x hx)), by simp only [List.length_nil] at sh; omega, fun H5 z rs s5 nz hz nd so mem le => ?_⟩
      exact yes z rs H5 s5 hz ⟨nd, so, mem, le⟩
    · exact k H4 D' (qs.map (·.2)) (s23.trans (Keep.of s4)) ⟨s23.free nD', qs, h4, r4, rfl⟩ (mq ▸ pr)
abbrev sHeights : Stmt := top 38
def spHeights (C M : Addr) : Sp := fun vs H Q _ => ∃ t, OnTree C M vs H t ∧ ∀ H' q rows, Keep C M H H' → H q = none → H' q = some (.lst (rows.map fun r => V.int (r.length : Nat))) → Paired (fun w r => InOrd r w) (t.ways []) rows → Q (.ref q) H'
theorem sc_heights : FnScope ["book", "tree", "way"] ["book", "tree"] (defScope sHeights) := ⟨rfl, rfl, rfl, by decide +kernel, rfl, by decide +kernel, by decide +kernel⟩
theorem ok_heights {f C M : Addr} {fd : FuncData} (G : Fun K "heights" "heights" sHeights f fd) (B : Pts mg) (FW : FN P w K mg base "ways_to_leaves" 17 ["book", "tree"] (spWays K C M)) : FnOk P w K mg base CX0 18 f fd ["book", "tree"] (spHeights C M) := by
  have sc := sc_heights
  obtain ⟨fW, dW, mW, kW, OW, bW⟩ := FW
  refine G.ok sc (fun vs H Q E h => ?_) (fun cdv A outer s H vs Q E hr h => ?_)
  · obtain ⟨_, ⟨_, _, _, _, rfl, _⟩, _⟩ := h
    rfl
  · obtain ⟨t, ⟨b, v, rows, ns, rfl, hb, ht, gt, hd⟩, k⟩ := h
    refine ⟨_, pss_one (ps_ret (pe_lc (own := [("way", 2)]) (g := gName 2) (tt := tYes) (te := tCB (rLenQ K) (tCons (tVar 2) tNil)) rfl sc.nd (pi_list (pe_call OW hr rfl mW kW bW .nil pass0 (pa_cons (pv 0) (pa_cons (pv 1) pa_nil))))
        (blkOk_by (N := ["book", "tree", "way"]) (sc := defScope sHeights) (by decide +kernel)) (fun _ _ _ _ _ => pg_name (i := 2) sc.nd rfl (Or.inl rfl)) (fun _ _ _ _ _ => pts_nil)
        (fun _ _ _ _ _ => pe_callB cr_lenQ (by rfl) B.len boot_len (pa_cons (pv 2) pa_nil)))), ?_⟩
    refine ⟨_, rfl, _, rfl, t, ⟨b, v, rows, ns, rfl, hb, ht, gt, hd⟩, fun H1 q rows' s1 nr pr => ?_⟩
    obtain ⟨nq, ts, hq, rq, mq⟩ := nr
    have lts : ts.length ≤ 64 := by
      have h1 := ways_len (part := []) (t := t) hd
      have h2 := pr.length
      rw [← mq, List.length_map] at h2
      have : (2 : Nat) ^ 6 = 64 := rfl
      omega
    refine ⟨q, rfl, ⟨_, SqL.of hq⟩, ?_⟩
    refine fun D nD => rel_lst (g := gName 2) (fun _ => true) LenR lenR_stays (SqL.of hq) (by rw [refs, List.length_map, sizeLine_eq]; omega) (fun x H4 Ψ Θ hx s4 yes no => ?_) (fun H4 D' ys s4 nD' h4 pr' => ?_) D nD
    · obtain ⟨p, hp, rfl⟩ := List.mem_map.mp hx
      have h4 := rows_same rq s4 p hp
      walk_at "go"
      refine ⟨p.1, _, rfl, .inr (SqT.of h4), ?_⟩
      rw [List.length_map]
      exact yes rfl _ H4 (same_refl _) ⟨p.1, p.2, rfl, h4, rfl⟩
    · rw [show (refs ts).filter (fun _ => true) = refs ts by simp] at pr'
      have e := lens_rel pr' (rows_same rq s4)
      refine k H4 D' rows' (s1.trans (Keep.of s4)) (s1.free nD') ?_ pr
      rw [h4, e, ← mq, List.map_map] <;> rfl
end
end My
end

section
set_option Elab.async false
set_option linter.all false
set_option maxRecDepth 100000
set_option maxHeartbeats 4000000
namespace My
local macro_rules | `(tactic| walk_at "go") => `(tactic| (repeat (first
  | (refine ⟨_, rfl, ?_⟩)
  | (refine ⟨_, _, rfl, rfl, ?_⟩)
  | (refine ⟨_, _, rfl, ?_⟩)
  | (refine ⟨rfl, ?_⟩)
  | (refine Or.inl ⟨_, rfl, ?_⟩)
  | (refine ⟨_, _, _, _, rfl, rfl, L2.SqL.of (by first | assumption | exact L2.upd_same), rfl, ?_⟩)
  | (refine ⟨_, _, _, _, rfl, rfl, (by first | assumption | exact L2.upd_same), rfl, ?_⟩)
  | (refine And.intro (by first | omega | decide | (unfold L2.CPow; decide) | (unfold L2.CMul; omega) | (unfold L2.CDiv; omega)) ?_))))
open PySem PySem.Spec PyProof.Rows L2 TL MyF MyS MyW RZ MyR
def isStr : V → Bool
  | .str _ => true
  | _ => false
theorem TrAt.parts {H : Hp} : ∀ {t : Tr} {v : V}, TrAt H v t → ∃ a xs, v = .ref a ∧ H a = some (.tup xs) ∧ xs.length < 30 ∧ (∀ x ∈ xs, (∃ z, x = V.str z) ∨ ∃ b ys, x = .ref b ∧ H b = some (.tup ys)) ∧ xs.all isStr = !t.isNode
  | .leaf r, v, ⟨a, e, h, _, few⟩ => ⟨a, _, e, h, by rw [List.length_map]; exact few, fun x hx => by
      obtain ⟨z, _, rfl⟩ := List.mem_map.mp hx
      exact .inl ⟨z, rfl⟩, by
      rw [List.all_map]
      exact List.all_eq_true.mpr fun _ _ => rfl⟩
  | .node n x y, v, ⟨a, u, z, e, h, _, hx, hy⟩ => by
    obtain ⟨b, xs, rfl, hb⟩ := hx.tup
    obtain ⟨c, ys, rfl, hc⟩ := hy.tup
    refine ⟨a, _, e, h, by show 3 < 30; decide, fun q hq => ?_, rfl⟩
    rcases List.mem_cons.mp hq with rfl | hq
    · exact .inl ⟨n, rfl⟩
    · rcases List.mem_cons.mp hq with rfl | hq
      · exact .inr ⟨b, xs, rfl, hb⟩
      · rcases List.mem_cons.mp hq with rfl | hq
        · exact .inr ⟨c, ys, rfl, hc⟩
        · cases hq
section
variable {P : Program} {w : World} {K : PySem.W.Frag} {mg : Str → Option Value} {base : Heap}
/-! ### _law_is_leaf -/
abbrev sLeaf : Stmt := top 66
def spLeaf : Sp := fun vs H Q _ => ∃ v t, vs = [v] ∧ TrAt H v t ∧ ∀ H', Same H H' → Q (.bl (!t.isNode)) H'
theorem sc_leaf : FnScope ["_law_tree", "_law_one"] ["_law_tree"] (defScope sLeaf) := ⟨rfl, rfl, rfl, by decide +kernel, rfl, by decide +kernel, by decide +kernel⟩
theorem ok_leaf {f : Addr} {fd : FuncData} (G : Fun K "_law_is_leaf" "_law_is_leaf" sLeaf f fd) (B : Pts mg) : FnOk P w K mg base CX0 1 f fd ["_law_tree"] spLeaf := by
  have sc := sc_leaf
  refine G.ok sc (fun vs H Q E h => ?_) (fun cdv A outer s H vs Q E hr h => ?_)
  · obtain ⟨_, _, rfl, _⟩ := h
    rfl
  · obtain ⟨v, t, rfl, ht, k⟩ := h
    refine ⟨_, pss_one (ps_ret (pe_callB (cr_all rfl) (by rfl) B.all (by decide +kernel) (pa_cons (pe_lc (own := [("_law_one", 1)]) (g := gName 1) (tt := tYes) (te := tCB (rIsi K) (tCons (tVar 1) (tCons (tC (.ty "str")) tNil))) rfl sc.nd (pi_sq (pv 0))
        (blkOk_by (N := ["_law_tree", "_law_one"]) (sc := defScope sLeaf) (by decide +kernel)) (fun _ _ _ _ _ => pg_name (i := 1) sc.nd rfl (Or.inl rfl)) (fun _ _ _ _ _ => pts_nil)
        (fun _ _ _ _ _ => pe_callB call_isi (by rfl) B.isinstance boot_isinstance (pa_cons (pv 1) (pa_cons (pe_bltn (v := .ty "str") (by rfl) B.str boot_str rfl) pa_nil)))) pa_nil))), ?_⟩
    obtain ⟨a, xs, rfl, ha, few, el, ev⟩ := ht.parts
    dsimp only [tRet, tCB, tCons, tNil]
    refine seq_lc (fun x => some (.bl (isStr x))) rfl (.inr (SqT.of ha)) (by rw [sizeLine_eq]; omega) (fun x H2 Ψ Θ hx s2 yes no => ?_) (fun H2 D s2 nD h2 => ?_)
    · walk_at "go"
      rcases el x hx with ⟨z, rfl⟩ | ⟨b, ys, rfl, hb⟩
      · exact ⟨.str z, .ty "str", _, _, true, rfl, .ty "str", .base (.str z), kit_ty (by decide +kernel), yes _ H2 rfl (same_refl _)⟩
      · exact ⟨.ref b, .ty "str", _, _, false, rfl, .ty "str", tup_ty (SqT.of (s2 _ _ hb)), kit_ty (by decide +kernel), yes _ H2 rfl (same_refl _)⟩
    · refine all_done h2 ?_
      rw [ev]
      exact k H2 s2
end
end My
end

section
set_option Elab.async false
set_option linter.all false
set_option maxRecDepth 100000
set_option maxHeartbeats 4000000
namespace My
local macro_rules | `(tactic| walk_at "go") => `(tactic| (repeat (first
  | (refine ⟨_, rfl, ?_⟩)
  | (refine ⟨_, _, rfl, rfl, ?_⟩)
  | (refine ⟨_, _, rfl, ?_⟩)
  | (refine ⟨rfl, ?_⟩)
  | (refine Or.inl ⟨_, rfl, ?_⟩)
  | (refine ⟨_, _, _, _, rfl, rfl, L2.SqL.of (by first | assumption | exact L2.upd_same), rfl, ?_⟩)
  | (refine ⟨_, _, _, _, rfl, rfl, (by first | assumption | exact L2.upd_same), rfl, ?_⟩)
  | (refine And.intro (by first | omega | decide | (unfold L2.CPow; decide) | (unfold L2.CMul; omega) | (unfold L2.CDiv; omega)) ?_))))
open PySem PySem.Spec PyProof.Rows L2 TL MyF MyS MyW RZ MyR
section
variable {P : Program} {w : World} {K : PySem.W.Frag} {mg : Str → Option Value} {base : Heap}
/-! ### _law_ways -/
abbrev sLWays : Stmt := top 68
def spLWays (rows : List (List Str)) (ns : List Str) (d : Nat) : Sp := fun vs H Q _ => ∃ (v : V) (h : Addr) (t : Tr) (part : List Str), vs = [v, .ref h] ∧ TrAt H v t ∧ GoodT rows ns part t ∧ t.dep ≤ d ∧ H h = some (.lst (part.map V.str)) ∧ part.length + d ≤ 60 ∧ d ≤ 6 ∧ part.Nodup ∧
  ∀ H' q rs, Same H H' → NewRows H H' q rs → Paired (fun w r => InOrd r w) (t.ways part) rs → Q (.ref q) H'
theorem sc_lways : FnScope ["_law_tree", "_law_here"] ["_law_tree", "_law_here"] (defScope sLWays) := ⟨rfl, rfl, rfl, by decide +kernel, rfl, by decide +kernel, by decide +kernel⟩
theorem nd_snoc {α : Type} {l : List α} {x : α} (n : l.Nodup) (h : x ∉ l) : (l ++ [x]).Nodup := List.nodup_append.mpr ⟨n, by simp, fun a ha b hb z => h (by rw [List.mem_singleton] at hb; subst hb; subst z; exact ha)⟩
theorem prd_app {α β : Type} {F : α → β → Prop} : ∀ {as cs : List α} {bs ds : List β}, Paired F as bs → Paired F cs ds → Paired F (as ++ cs) (bs ++ ds)
  | _, _, _, _, .nil, h => h
  | _, _, _, _, .cons r t, h => .cons r (prd_app t h)
theorem ok_lways {rows : List (List Str)} {ns : List Str} {m d : Nat} {f : Addr} {fd : FuncData} (G : Fun K "_law_ways" "_law_ways" sLWays f fd) (B : Pts mg) (FL : FN P w K mg base "_law_is_leaf" 1 ["_law_tree"] spLeaf) (hm : 1 ≤ m) (mE : mg "_law_ways" = some (.ref f)) (kE : PySem.W.keepIn K (.ref f) = true) (bE : Binds K fd ["_law_tree", "_law_here"] [])
    (OE : d = 0 ∨ ∃ d', d = d' + 1 ∧ FnOk P w K mg base CX0 m f fd ["_law_tree", "_law_here"] (spLWays rows ns d')) : FnOk P w K mg base CX0 (m + 1) f fd ["_law_tree", "_law_here"] (spLWays rows ns d) := by
  have sc := sc_lways
  obtain ⟨fL, dL, mL, kL, OL, bL⟩ := FL
  refine G.ok sc (fun vs H Q E h => ?_) (fun cdv A outer s H vs Q E hr h => ?_)
  · obtain ⟨_, _, _, _, rfl, _⟩ := h
    rfl
  · obtain ⟨v, p, t, part, rfl, ht, gt, hd, hp, few, d6, nd, k⟩ := h
    have hr1 : Room 1 _ := hr.mono (by omega)
    cases t with
    | leaf r =>
      refine ⟨_, pss_cons (ps_if (pt_val (pe_call OL hr1 rfl mL kL bL .nil pass0 (pa_cons (pv 0) pa_nil))) (pss_one (ps_ret (pe_lst (pa_cons (pe_callTy call_tuple_of (by rfl) B.tuple boot_tuple (pa_cons (pe_callB cr_sortedS (by rfl) B.sorted boot_sorted (pa_cons (pv 1) pa_nil)) pa_nil)) pa_nil)))) pss_nil) pss_never, ?_⟩
      refine ⟨_, rfl, v, .leaf r, rfl, ht, fun H1 s1 => ?_⟩
      refine ⟨_, rfl, iteT ?_⟩
      refine ⟨_, rfl, p, part, rfl, SqL.of (s1 _ _ hp), by omega, fun ys q pm so nq => ?_⟩
      refine ⟨q, _, rfl, .inl ⟨SqL.of upd_same, fun l nl => ?_⟩⟩
      refine ⟨(by show 1 ≤ sizeLine; decide), fun D nD => ?_⟩
      have s2 := same_trans (same_trans s1 (same_new (o := .lst (ys.map V.str)) nq)) (same_new (o := .tup (ys.map V.str)) nl)
      have s3 := same_trans s2 (same_new (o := .lst [V.ref l]) nD)
      refine k _ D [ys] s3 ⟨same_free s2 nD, [(l, ys)], upd_same, fun x hx => ?_, rfl⟩ (.cons ⟨pm.nodup_iff.mpr nd, so, fun y => pm.mem_iff, by rw [pm.length_eq]; exact Nat.le_refl _⟩ .nil)
      rw [List.mem_singleton.mp hx]
      exact (same_new nD) _ _ upd_same
    | node n x y =>
      obtain ⟨a, u, z, he, h, ln, hx, hy⟩ := ht
      obtain ⟨g1, g2, g3, gx, gy⟩ := gt
      obtain ⟨d', rfl, OF⟩ : ∃ d', d = d' + 1 ∧ FnOk P w K mg base CX0 m f fd ["_law_tree", "_law_here"] (spLWays rows ns d') := by
        rcases OE with rfl | z
        · exact absurd hd (by simp [Tr.dep])
        · exact z
      have hdx : x.dep ≤ d' ∧ y.dep ≤ d' := by
        have hd2 : max x.dep y.dep + 1 ≤ d' + 1 := hd
        omega
      have eo : oppS n = dash ++ n := opp_pos (low_neg ln)
      refine ⟨_, pss_cons (ps_if (pt_val (pe_call OL hr1 rfl mL kL bL .nil pass0 (pa_cons (pv 0) pa_nil))) pss_never pss_nil)
        (pss_one (ps_ret (pe_op op_cat (pe_call OF hr rfl mE kE bE .nil pass0 (pa_cons (pe_ix ix_tup (pv 0) pe_int (fun _ _ => rfl)) (pa_cons (pe_op op_cat (pv 1) (pe_lst (pa_cons (pe_ix ix_tup (pv 0) pe_int (fun _ _ => rfl)) pa_nil))) pa_nil)))
          (pe_call OF hr rfl mE kE bE .nil pass0 (pa_cons (pe_ix ix_tup (pv 0) pe_int (fun _ _ => rfl)) (pa_cons (pe_op op_cat (pv 1) (pe_lst (pa_cons (pe_op op_add_str pe_str (pe_ix ix_tup (pv 0) pe_int (fun _ _ => rfl))) pa_nil))) pa_nil)))))), ?_⟩
      refine ⟨_, rfl, v, .node n x y, rfl, ⟨a, u, z, he, h, ln, hx, hy⟩, fun H1 s1 => ?_⟩
      refine ⟨_, rfl, iteF ?_⟩
      subst he
      refine ⟨_, rfl, a, _, 1, u, rfl, rfl, SqT.of (s1 _ _ h), rfl, ?_⟩
      refine ⟨_, rfl, _, rfl, a, _, 0, .str n, rfl, rfl, SqT.of (s1 _ _ h), rfl, (by show 1 ≤ sizeLine; decide), fun t1 nt1 => ?_⟩
      have s2 := same_trans s1 (same_new (o := .lst [V.str n]) nt1)
      have lenp : (part.map V.str).length + 1 ≤ sizeLine := by rw [List.length_map, sizeLine_eq]; omega
      refine ⟨p, t1, _, _, rfl, rfl, s2 _ _ hp, upd_same, lenp, fun p4 np4 => ?_⟩
      have s3 := same_trans s2 (same_new (o := .lst (part.map V.str ++ [V.str n])) np4)
      refine ⟨u, p4, x, part ++ [n], rfl, hx.same s3, gx, hdx.1, by rw [upd_same, List.map_append] <;> rfl, by rw [List.length_append, List.length_singleton]; omega, by omega, nd_snoc nd g2, fun H5 q5 r5 s5 nr5 pr5 => ?_⟩
      have s35 := same_trans s3 s5
      refine ⟨_, rfl, a, _, 2, z, rfl, rfl, SqT.of (s35 _ _ h), rfl, ?_⟩
      refine ⟨_, rfl, _, rfl, a, _, 0, .str n, rfl, rfl, SqT.of (s35 _ _ h), rfl, _, n, rfl, rfl, ?_, (by show 1 ≤ sizeLine; decide), fun t6 nt6 => ?_⟩
      · show dash.length + n.length ≤ sizeLine
        have := low_short ln
        have : dash.length = 1 := by decide +kernel
        rw [sizeLine_eq]
        omega
      have s6' := same_new (H := H5) (o := .lst [V.str (dash ++ n)]) nt6
      have s6 := same_trans s35 s6'
      refine ⟨p, t6, _, _, rfl, rfl, s6 _ _ hp, upd_same, lenp, fun p7 np7 => ?_⟩
      have s7' := same_new (o := .lst (part.map V.str ++ [V.str (dash ++ n)])) np7
      have s7 := same_trans s6 s7'
      refine ⟨z, p7, y, part ++ [oppS n], rfl, hy.same s7, gy, hdx.2, by rw [upd_same, List.map_append, eo] <;> rfl, by rw [List.length_append, List.length_singleton]; omega, by omega, nd_snoc nd g3, fun H8 q8 r8 s8 nr8 pr8 => ?_⟩
      have s78 := same_trans s7 s8
      obtain ⟨nq5, ts, e5, rr5, m5⟩ := nr5
      obtain ⟨nq8, us, e8, rr8, m8⟩ := nr8
      have s58 := same_trans s6' (same_trans s7' s8)
      have l5 : ts.length ≤ 64 := by
        have h1 := ways_len (part := part ++ [n]) (t := x) (d := 6) (by omega)
        have h2 := pr5.length
        rw [← m5, List.length_map] at h2
        have : (2 : Nat) ^ 6 = 64 := rfl
        omega
      have l8 : us.length ≤ 64 := by
        have h1 := ways_len (part := part ++ [oppS n]) (t := y) (d := 6) (by omega)
        have h2 := pr8.length
        rw [← m8, List.length_map] at h2
        have : (2 : Nat) ^ 6 = 64 := rfl
        omega
      refine ⟨q5, q8, _, _, rfl, rfl, s58 _ _ e5, e8, by rw [refs, refs, List.length_map, List.length_map, sizeLine_eq]; omega, fun p9 np9 => ?_⟩
      have s9' := same_new (H := H8) (o := .lst (refs ts ++ refs us)) np9
      have s59 := same_trans s58 s9'
      refine k _ p9 (r5 ++ r8) (same_trans s78 s9') ⟨same_free s78 np9, ts ++ us, ?_, fun q hq => ?_, by rw [List.map_append, m5, m8]⟩ (prd_app pr5 pr8)
      · rw [upd_same]
        show _ = some (HO.lst ((ts ++ us).map _))
        rw [List.map_append]
        rfl
      · rcases List.mem_append.mp hq with hq | hq
        · exact s59 _ _ (rr5 q hq)
        · exact s9' _ _ (rr8 q hq)
end
end My
end

section
set_option Elab.async false
set_option linter.all false
set_option maxRecDepth 100000
set_option maxHeartbeats 4000000
namespace My
local macro_rules | `(tactic| walk_at "go") => `(tactic| (repeat (first
  | (refine ⟨_, rfl, ?_⟩)
  | (refine ⟨_, _, rfl, rfl, ?_⟩)
  | (refine ⟨_, _, rfl, ?_⟩)
  | (refine ⟨rfl, ?_⟩)
  | (refine Or.inl ⟨_, rfl, ?_⟩)
  | (refine ⟨_, _, _, _, rfl, rfl, L2.SqL.of (by first | assumption | exact L2.upd_same), rfl, ?_⟩)
  | (refine ⟨_, _, _, _, rfl, rfl, (by first | assumption | exact L2.upd_same), rfl, ?_⟩)
  | (refine And.intro (by first | omega | decide | (unfold L2.CPow; decide) | (unfold L2.CMul; omega) | (unfold L2.CDiv; omega)) ?_))))
open PySem PySem.Spec PyProof.Rows L2 TL MyF MyS MyW RZ MyR
section
variable {P : Program} {w : World} {K : PySem.W.Frag} {mg : Str → Option Value} {base : Heap}
/-! ### _law_led -/
abbrev sLed : Stmt := top 69
def spLed (K : PySem.W.Frag) : Sp := fun vs H Q _ => ∃ (v : V) (p : Addr) (t : Tr) (ys : List Str), vs = [v, .ref p] ∧ TrAt H v t ∧ t.dep ≤ 6 ∧ SqT K H p (ys.map V.str) ∧
  ∀ H' q D z, Same H H' → H q = none → H D = none → H' q = some (.lst [.ref D, z]) → H' D = some (.lst ((t.asks ys).map V.str)) → TrAt H' z (.leaf (t.down ys)) → Q (.ref q) H'
theorem sc_led : FnScope ["_law_tree", "_law_part", "_law_asked"] ["_law_tree", "_law_part"] (defScope sLed) := ⟨rfl, rfl, rfl, by decide +kernel, rfl, by decide +kernel, by decide +kernel⟩
theorem ok_led {f : Addr} {fd : FuncData} (G : Fun K "_law_led" "_law_led" sLed f fd) (FL : FN P w K mg base "_law_is_leaf" 1 ["_law_tree"] spLeaf) : FnOk P w K mg base CX0 2 f fd ["_law_tree", "_law_part"] (spLed K) := by
  have sc := sc_led
  obtain ⟨fL, dL, mL, kL, OL, bL⟩ := FL
  refine G.ok sc (fun vs H Q E h => ?_) (fun cdv A outer s H vs Q E hr h => ?_)
  · obtain ⟨_, _, _, _, rfl, _⟩ := h
    rfl
  · obtain ⟨v, p, t, ys, rfl, ht, hd, hp, k⟩ := h
    refine ⟨_, pss_cons (ps_set (i := 2) sc.nd rfl (Or.inl rfl) (pe_lst pa_nil))
      (pss_cons (ps_while PassesOwn.never (pt_not (pt_val (pe_call OL hr rfl mL kL bL .nil pass0 (pa_cons (pv 0) pa_nil)))) (pss_cons (ps_expr (pe_bm PySem.F.plainAttrs_list PySem.F.slot_list_append PySem.F.type_list_append mt_append (pv 2) (pa_cons (pe_ix ix_tup (pv 0) pe_int (fun _ _ => rfl)) pa_nil)))
        (pss_one (ps_set (i := 0) sc.nd rfl (Or.inl rfl) (pe_ifExp (pt_cmpR op_in_seq (pe_ix ix_tup (pv 0) pe_int (fun _ _ => rfl)) (pv 1) (by rfl)) (pe_ix ix_tup (pv 0) pe_int (fun _ _ => rfl)) (pe_ix ix_tup (pv 0) pe_int (fun _ _ => rfl)))))))
      (pss_one (ps_ret (pe_lst (pa_cons (pv 2) (pa_cons (pv 0) pa_nil)))))), ?_⟩
    refine ⟨Nat.zero_le _, fun D nD => ?_⟩
    have sD := same_new (o := .lst []) nD
    refine ⟨fun m σ H3 => ∃ (z : V) (t' : Tr) (pre : List Str), m = t'.size ∧ σ = [some z, some (.ref p), some (.ref D)] ∧ TrAt H3 z t' ∧ pre ++ t'.asks ys = t.asks ys ∧ t'.down ys = t.down ys ∧ H3 D = some (.lst (pre.map V.str)) ∧ Same H H3, ⟨t.size, v, t, [], rfl, rfl, ht.same sD, rfl, rfl, upd_same, sD⟩, ?_⟩
    rintro m σ H3 ⟨z, t', pre, rfl, rfl, hz, an, dn, hD, s3⟩
    refine ⟨_, rfl, z, t', rfl, hz, fun H4 s4 => ?_⟩
    refine ⟨_, rfl, ?_⟩
    have s34 := same_trans s3 s4
    have hD4 := s4 _ _ hD
    cases t' with
    | leaf r =>
      refine iteF ?_
      have e : pre = t.asks ys := by
        rw [← an]
        show pre = pre ++ []
        rw [List.append_nil]
      refine ⟨_, rfl, _, rfl, (by show 2 ≤ sizeLine; decide), fun q nq => ?_⟩
      have s5 := same_new (H := H4) (o := .lst [V.ref D, z]) nq
      exact k _ q D z (same_trans s34 s5) (same_free s34 nq) nD upd_same (s5 _ _ (e ▸ hD4)) (dn ▸ (hz.same s4).same s5)
    | node n x y =>
      refine iteT ?_
      have hz4 := hz.same s4
      obtain ⟨c, u, u2, rfl, hc, ln, hx, hy⟩ := id hz4
      have len : pre.length ≤ 6 := by
        have h1 := asks_len (part := ys) t
        rw [← an, List.length_append] at h1
        omega
      refine ⟨fun σ' H' => ∃ (z' : V), σ' = [some z', some (.ref p), some (.ref D)] ∧ TrAt H' z' ((Tr.node n x y).took ys) ∧ H' D = some (.lst ((pre ++ [n]).map V.str)) ∧ Same H H', ?_, ?_⟩
      · rintro σ' H' ⟨z', rfl, hz', hD', s'⟩
        refine ⟨_, took_size rfl, z', _, pre ++ [n], rfl, rfl, hz', ?_, took_down.trans dn, hD', s'⟩
        rw [List.append_assoc, ← an, took_asks]
        rfl
      · have s5 : Same H (upd H4 D (.lst (pre.map V.str ++ [V.str n]))) := fun q o e => by
          rw [upd_ne (ne_of_none e nD)]
          exact s34 q o e
        have hz5 : TrAt (upd H4 D (.lst (pre.map V.str ++ [V.str n]))) (.ref c) (.node n x y) := TrAt.but (q := D) (But.set) hD4 hz4
        obtain ⟨c', w1, w2, ec, hc5, ln5, hx5, hy5⟩ := id hz5
        injection ec with ec
        subst ec
        refine ⟨_, rfl, .inl ⟨rfl, _, SqL.of hD4⟩, ?_⟩
        refine ⟨_, rfl, c, _, 0, .str n, rfl, rfl, SqT.of hc, rfl, ?_⟩
        refine ⟨D, _, _, rfl, rfl, hD4, by rw [List.length_map, sizeLine_eq]; omega, ?_⟩
        refine ⟨_, rfl, c, _, 0, .str n, rfl, rfl, SqT.of hc5, rfl, ?_⟩
        refine ⟨_, rfl, p, _, rfl, .inr (sqT_same hp s5), rfl, flat_strs ys, ?_⟩
        refine ⟨_, rfl, ?_⟩
        have hDn : upd H4 D (.lst (pre.map V.str ++ [V.str n])) D = some (.lst ((pre ++ [n]).map V.str)) := by
          rw [List.map_append]
          exact upd_same
        rw [inV_strs]
        by_cases m : n ∈ ys
        · rw [decide_eq_true m]
          refine iteT ⟨_, rfl, c, _, 1, w1, rfl, rfl, SqT.of hc5, rfl, w1, rfl, ?_, hDn, s5⟩
          show TrAt _ w1 (if n ∈ ys then x else y)
          rw [if_pos m]
          exact hx5
        · rw [decide_eq_false m]
          refine iteF ⟨_, rfl, c, _, 2, w2, rfl, rfl, SqT.of hc5, rfl, w2, rfl, ?_, hDn, s5⟩
          show TrAt _ w2 (if n ∈ ys then x else y)
          rw [if_neg m]
          exact hy5
end
end My
end

section
set_option Elab.async false
set_option linter.all false
set_option maxRecDepth 100000
set_option maxHeartbeats 4000000
namespace My
local macro_rules | `(tactic| walk_at "go") => `(tactic| (repeat (first
  | (refine ⟨_, rfl, ?_⟩)
  | (refine ⟨_, _, rfl, rfl, ?_⟩)
  | (refine ⟨_, _, rfl, ?_⟩)
  | (refine ⟨rfl, ?_⟩)
  | (refine Or.inl ⟨_, rfl, ?_⟩)
  | (refine ⟨_, _, _, _, rfl, rfl, L2.SqL.of (by first | assumption | exact L2.upd_same), rfl, ?_⟩)
  | (refine ⟨_, _, _, _, rfl, rfl, (by first | assumption | exact L2.upd_same), rfl, ?_⟩)
  | (refine And.intro (by first | omega | decide | (unfold L2.CPow; decide) | (unfold L2.CMul; omega) | (unfold L2.CDiv; omega)) ?_))))
open PySem PySem.Spec PyProof.Rows L2 TL MyF MyS MyW RZ MyR MyT MyQ MyV MyZ
/-- all signs of all names, as they are made -/
def stepP (rs : List (List Str)) (n : Str) : List (List Str) := rs ++ rs.map (· ++ [n]) ++ rs.map (· ++ [dash ++ n])
def partsU (ns : List Str) : List (List Str) := ns.foldl stepP [[]]
theorem partsU_snoc (ns : List Str) (n : Str) : partsU (ns ++ [n]) = stepP (partsU ns) n := by
  rw [partsU, List.foldl_append]
  rfl
theorem rev_ind {α : Type} {Pm : List α → Prop} (h0 : Pm []) (h1 : ∀ l x, Pm l → Pm (l ++ [x])) (l : List α) : Pm l := by
  have go : ∀ n (l : List α), l.length = n → Pm l := by
    intro n
    induction n with
    | zero => exact fun l h => by rw [List.length_eq_zero_iff.mp h]; exact h0
    | succ n ih =>
      intro l h
      rcases List.eq_nil_or_concat l with rfl | ⟨m, x, rfl⟩
      · exact h0
      · rw [List.concat_eq_append] at h ⊢
        rw [List.length_append, List.length_singleton] at h
        exact h1 m x (ih m (by omega))
  exact go _ l rfl
theorem partsU_len (ns : List Str) : (partsU ns).length = 3 ^ ns.length := by
  refine rev_ind (Pm := fun ns => (partsU ns).length = 3 ^ ns.length) rfl (fun l n ih => ?_) ns
  rw [partsU_snoc, stepP, List.length_append, List.length_append, List.length_map, List.length_map, ih, List.length_append, List.length_singleton, Nat.pow_succ]
  omega
theorem partsU_sgs (ns : List Str) : ∀ w ∈ partsU ns, ∃ ss : List Str, Sgs w ss ∧ ss.Sublist ns := by
  refine rev_ind (Pm := fun ns => ∀ w ∈ partsU ns, ∃ ss : List Str, Sgs w ss ∧ ss.Sublist ns) (fun w h => ⟨[], by rw [List.mem_singleton.mp h]; exact .nil, List.Sublist.refl _⟩) (fun l n ih w h => ?_) ns
  rw [partsU_snoc] at h
  rcases List.mem_append.mp h with h | h
  · rcases List.mem_append.mp h with h | h
    · obtain ⟨ss, a, b⟩ := ih w h
      exact ⟨ss, a, b.trans (List.sublist_append_left _ _)⟩
    · obtain ⟨u, hu, rfl⟩ := List.mem_map.mp h
      obtain ⟨ss, a, b⟩ := ih u hu
      exact ⟨ss ++ [n], a.snoc (.inl rfl), b.append (List.Sublist.refl _)⟩
  · obtain ⟨u, hu, rfl⟩ := List.mem_map.mp h
    obtain ⟨ss, a, b⟩ := ih u hu
    exact ⟨ss ++ [n], a.snoc (.inr rfl), b.append (List.Sublist.refl _)⟩
theorem partsU_nd {ns : List Str} (nd : ns.Nodup) (lo : ns.all lowZ = true) : ∀ w ∈ partsU ns, w.Nodup ∧ w.length ≤ ns.length := fun w h => by
  obtain ⟨ss, a, b⟩ := partsU_sgs ns w h
  refine ⟨nodup_of_map bareS ?_, by rw [a.len]; exact b.length_le⟩
  rw [a.bare fun s hs => List.all_eq_true.mp lo s (b.subset hs)]
  exact nd.sublist b
section
variable {P : Program} {w : World} {K : PySem.W.Frag} {mg : Str → Option Value} {base : Heap}
/-- the ascending list of all part-fillings of ns -/
def spParts2 (K : PySem.W.Frag) : Sp := fun vs H Q _ => ∃ (q : Addr) (ns : List Str), vs = [.ref q] ∧ SqL K H q (ns.map V.str) ∧ ns.length ≤ 6 ∧ ns.Nodup ∧ ns.all lowZ = true ∧
  ∀ H' r os, Same H H' → NewRows H H' r (asc os) → Paired (fun w o => InOrd o w) (partsU ns) os → Q (.ref r) H'
theorem ok_parts2 {f : Addr} {fd : FuncData} (G : Fun K "_law_parts" "_law_parts" sParts f fd) (hsorted : mg "sorted" = none) (htuple : mg "tuple" = none) : FnOk P w K mg base CX0 1 f fd ["_law_names_here"] (spParts2 K) := by
  have sc := sc_parts
  refine G.ok sc (fun vs H Q E h => ?_) (fun cdv A outer s H vs Q E hr h => ?_)
  · obtain ⟨_, _, rfl, _⟩ := h
    rfl
  · obtain ⟨q, ns, rfl, hS, h6, nd, lo, k⟩ := h
    have big : (100000 : Nat) < sizeLine := by decide
    have hu := hu_of hr
    refine ⟨_, pss_cons (ps_set (i := 1) sc.nd rfl (Or.inl rfl) (pe_lst (pa_cons (pe_tup pa_nil) pa_nil)))
      (pss_cons (ps_for PassesOwn.never rfl (pi_list (pv 0)) (pg_name (i := 2) sc.nd rfl (Or.inr rfl))
        (pss_one (ps_set (i := 1) sc.nd rfl (Or.inl rfl) (pe_op op_cat (pe_op op_cat (pv 1)
          (pe_lc (own := [("_law_part", 3)]) (g := gName 3) (tt := tYes) (te := tOp (rCatA K) (tVar 3) (tTup (tCons (tVar 2) tNil))) rfl sc.nd (pi_sq (pv 1)) (blkOk_by (N := ["_law_names_here", "_law_found", "_law_name", "_law_part"]) (sc := defScope sParts) (by decide +kernel)) (fun _ _ _ _ _ => pg_name (i := 3) sc.nd rfl (Or.inl rfl)) (fun _ _ _ _ _ => pts_nil)
            (fun _ _ _ _ _ => pe_op op_catA (pv 3) (pe_tup (pa_cons (pv 2) pa_nil)))))
          (pe_lc (own := [("_law_part", 3)]) (g := gName 3) (tt := tYes) (te := tOp (rCatA K) (tVar 3) (tTup (tCons (tOp rAddS (tC (.str dash)) (tVar 2)) tNil))) rfl sc.nd (pi_sq (pv 1)) (blkOk_by (N := ["_law_names_here", "_law_found", "_law_name", "_law_part"]) (sc := defScope sParts) (by decide +kernel)) (fun _ _ _ _ _ => pg_name (i := 3) sc.nd rfl (Or.inl rfl)) (fun _ _ _ _ _ => pts_nil)
            (fun _ _ _ _ _ => pe_op op_catA (pv 3) (pe_tup (pa_cons (pe_op op_add_str pe_str (pv 2)) pa_nil))))))))
      (pss_one (ps_ret (pe_callB (cr_sortRows hr.units) (by rfl) hsorted boot_sorted (pa_cons
          (pe_lc (own := [("_law_part", 3)]) (g := gName 3) (tt := tYes) (te := tCB (rTupOf K) (tCons (tCB (rSortTS K) (tCons (tVar 3) tNil)) tNil)) rfl sc.nd (pi_sq (pv 1)) (blkOk_by (N := ["_law_names_here", "_law_found", "_law_name", "_law_part"]) (sc := defScope sParts) (by decide +kernel)) (fun _ _ _ _ _ => pg_name (i := 3) sc.nd rfl (Or.inl rfl)) (fun _ _ _ _ _ => pts_nil)
            (fun _ _ _ _ _ => pe_callTy cr_tupOf (by rfl) htuple boot_tuple (pa_cons (pe_callB (cr_sortTS hr.units) (by rfl) hsorted boot_sorted (pa_cons (pv 3) pa_nil)) pa_nil))) pa_nil))))), ?_⟩
    refine ⟨(by show 0 ≤ sizeLine; omega), fun t0 n0 => ?_⟩
    refine ⟨(by show 1 ≤ sizeLine; omega), fun F nF => ?_⟩
    have s0 := same_trans (same_new (o := .tup []) n0) (same_new (o := .lst [.ref t0]) nF)
    have ht0 := (same_new (o := .lst [.ref t0]) nF) _ _ (upd_same (H := H) (a := t0) (o := .tup []))
    refine ⟨_, rfl, q, rfl, ⟨_, sqL_same hS s0⟩, ?_⟩
    refine for_list (xs := ns.map V.str) (fun i σ Hc => i ≤ ns.length ∧ ∃ (F : Addr) (ps : List Rs) (v : Option V), σ = [some (.ref q), some (.ref F), v, none] ∧ Same H Hc ∧ H F = none ∧ Hc F = some (.lst (refs ps)) ∧ RowsAt Hc ps ∧ ps.map (·.2) = partsU (ns.take i)) ?_ ?_ ?_ ?_
    · refine ⟨Nat.zero_le _, F, [(t0, [])], none, rfl, s0, same_free (same_new n0) nF, upd_same, fun x hx => ?_, rfl⟩
      rw [List.mem_singleton.mp hx]
      exact ht0
    · rintro i σ Hc hi ⟨_, F, ps, v, rfl, sm, _⟩
      exact sqL_same hS sm
    · rintro i x σ Hc hx ⟨hi, F, ps, v, rfl, sm, nF, hF, rw', ep⟩
      have hi2 : i < ns.length := by
        have := (List.getElem?_eq_some_iff.mp hx).1
        rw [List.length_map] at this
        exact this
      rw [List.getElem?_map, List.getElem?_eq_getElem hi2] at hx
      cases hx
      have lown : lowZ ns[i] = true := List.all_eq_true.mp lo _ (List.getElem_mem hi2)
      have ln := low_short lown
      have lp : ps.length * 3 ≤ 729 := by
        have h1 := partsU_len (ns.take i)
        rw [← ep, List.length_map, List.length_take, Nat.min_eq_left (Nat.le_of_lt hi2)] at h1
        rw [h1, ← Nat.pow_succ]
        exact pow3 (by omega)
      have tk : ns.take (i + 1) = ns.take i ++ [ns[i]] := by rw [List.take_add_one, List.getElem?_eq_getElem hi2] <;> rfl
      have len : ∀ p ∈ ps, p.2.length ≤ 6 := fun p hp => by
        have h1 : p.2 ∈ partsU (ns.take i) := ep ▸ List.mem_map.mpr ⟨p, hp, rfl⟩
        obtain ⟨ss, a, b⟩ := partsU_sgs _ _ h1
        have h2 := b.length_le
        rw [List.length_take] at h2
        have h3 := a.len
        omega
      refine ⟨_, rfl, ?_⟩
      dsimp only [tSeq, tAsg, tRet, tCB, tCons, tNil, tCall, tNext]
      refine row_seq (g := gName 3) (fun w r => r = w ++ [ns[i]]) rfl (.inl (SqL.of hF)) rw' (by omega) (fun p H2 Ψ hp s2 yes => ?_) (fun _ _ _ _ _ h q => h _ _ q) (fun H2 D1 qs1 s2 nD1 h2 r1 pr1 => ?_)
      · walk_at "go"
        refine ⟨(by show 1 ≤ sizeLine; omega), fun b nb => ?_⟩
        have lpp := len p hp
        refine cat_snoc (SqT.of ((same_new nb) _ _ (s2 _ _ (rw' p hp)))) upd_same (by rw [List.length_map]; omega) fun H5 z s5 hz => ?_
        exact yes z (p.2 ++ [ns[i]]) H5 (same_trans (same_new nb) s5) (by rw [hz, List.map_append] <;> rfl) rfl
      · have e1 := prd_map pr1
        have l1 : qs1.length = ps.length := by
          have := congrArg List.length e1
          rw [List.length_map, List.length_map, List.length_map] at this
          exact this
        refine ⟨F, D1, _, _, rfl, rfl, s2 _ _ hF, h2, by rw [refs, refs, List.length_map, List.length_map]; omega, fun D2 nD2 => ?_⟩
        have sp3 := same_new (H := H2) (o := .lst (refs ps ++ refs qs1)) nD2
        have s3 := same_trans s2 sp3
        have hD2 : upd H2 D2 (.lst (refs ps ++ refs qs1)) D2 = some (.lst (refs ps ++ refs qs1)) := upd_same
        generalize upd H2 D2 (.lst (refs ps ++ refs qs1)) = H3 at s3 hD2 sp3
        refine row_seq (g := gName 3) (fun w r => r = w ++ [dash ++ ns[i]]) rfl (.inl (SqL.of (s3 _ _ hF))) (rows_same rw' s3) (by omega) (fun p H4 Ψ hp s4 yes => ?_) (fun _ _ _ _ _ h q => h _ _ q) (fun H4 D3 qs2 s4 nD3 h4 r2 pr2 => ?_)
        · walk_at "go"
          refine ⟨?_, (by show 1 ≤ sizeLine; omega), fun b nb => ?_⟩
          · show 1 + ns[i].length ≤ sizeLine
            omega
          have lpp := len p hp
          refine cat_snoc (SqT.of ((same_new nb) _ _ (s4 _ _ (s3 _ _ (rw' p hp))))) upd_same (by rw [List.length_map]; omega) fun H5 z s5 hz => ?_
          exact yes z (p.2 ++ [dash ++ ns[i]]) H5 (same_trans (same_new nb) s5) (by rw [hz, List.map_append] <;> rfl) rfl
        · have e2 := prd_map pr2
          have l2 : qs2.length = ps.length := by
            have := congrArg List.length e2
            rw [List.length_map, List.length_map, List.length_map] at this
            exact this
          refine ⟨D2, D3, _, _, rfl, rfl, s4 _ _ hD2, h4, by rw [List.length_append, refs, refs, refs, List.length_map, List.length_map, List.length_map]; omega, fun D4 nD4 => ?_⟩
          have s5' := same_new (H := H4) (o := .lst (refs ps ++ refs qs1 ++ refs qs2)) nD4
          have s5 := same_trans (same_trans s3 s4) s5'
          refine ⟨hi2, D4, ps ++ qs1 ++ qs2, _, rfl, same_trans sm s5, same_free sm (same_free (same_trans s3 s4) nD4), ?_, fun x hx => ?_, ?_⟩
          · rw [upd_same]
            show _ = some (HO.lst ((ps ++ qs1 ++ qs2).map _))
            rw [List.map_append, List.map_append]
            rfl
          · rcases List.mem_append.mp hx with hx | hx
            · rcases List.mem_append.mp hx with hx | hx
              · exact s5 _ _ (rw' x hx)
              · exact s5' _ _ (s4 _ _ (sp3 _ _ (r1 x hx)))
            · exact s5' _ _ (r2 x hx)
          · rw [tk, partsU_snoc, stepP, List.map_append, List.map_append, e1, e2, ep]
    · rintro σ Hc ⟨_, F, ps, v, rfl, sm, nF, hF, rw', ep⟩
      rw [List.length_map, List.take_length] at ep
      have lp : ps.length ≤ 729 := by
        have h1 := partsU_len ns
        rw [← ep, List.length_map] at h1
        rw [h1]
        exact pow3 h6
      dsimp only [tSeq, tAsg, tRet, tCB, tCons, tNil, tCall, tNext]
      refine row_seq (g := gName 3) (fun w r => InOrd r w) rfl (.inl (SqL.of hF)) rw' (by omega) (fun p H2 Ψ hp s2 yes => ?_) (fun _ _ _ _ _ h q => h _ _ q) (fun H2 D1 qs1 s2 nD1 h2 r1 pr1 => ?_)
      · walk_at "go"
        have hw : p.2 ∈ partsU ns := ep ▸ List.mem_map.mpr ⟨p, hp, rfl⟩
        obtain ⟨wn, wl⟩ := partsU_nd nd lo p.2 hw
        refine ⟨p.1, p.2, rfl, SqT.of (s2 _ _ (rw' p hp)), fun ys z pm so nz => ?_⟩
        refine ⟨z, _, rfl, .inl ⟨SqL.of upd_same, fun l nl => ?_⟩⟩
        exact yes l ys _ (same_trans (same_new nz) (same_new nl)) upd_same ⟨pm.nodup_iff.mpr wn, so, fun y => pm.mem_iff, Nat.le_of_eq pm.length_eq⟩
      · refine ⟨D1, qs1, rfl, SqL.of h2, r1, fun p qs pm e1 np => ?_⟩
        have s3 := same_trans (same_trans sm s2) (same_new (o := .lst (refs qs)) np)
        exact k _ p (qs1.map (·.2)) s3 ⟨same_free (same_trans sm s2) np, qs, upd_same, (r1.perm pm).upd np, e1⟩ (ep ▸ pr1)
end
end My
end

section
set_option Elab.async false
set_option linter.all false
set_option maxRecDepth 100000
set_option maxHeartbeats 4000000
namespace My
local macro_rules | `(tactic| walk_at "go") => `(tactic| (repeat (first
  | (refine ⟨_, rfl, ?_⟩)
  | (refine ⟨_, _, rfl, rfl, ?_⟩)
  | (refine ⟨_, _, rfl, ?_⟩)
  | (refine ⟨rfl, ?_⟩)
  | (refine Or.inl ⟨_, rfl, ?_⟩)
  | (refine ⟨_, _, _, _, rfl, rfl, L2.SqL.of (by first | assumption | exact L2.upd_same), rfl, ?_⟩)
  | (refine ⟨_, _, _, _, rfl, rfl, (by first | assumption | exact L2.upd_same), rfl, ?_⟩)
  | (refine And.intro (by first | omega | decide | (unfold L2.CPow; decide) | (unfold L2.CMul; omega) | (unfold L2.CDiv; omega)) ?_))))
open PySem PySem.Spec PyProof.Rows L2 TL MyF MyS MyW RZ MyR MyT MyQ MyV MyZ
theorem lit_litL {r : List Str} (h : r.all litS = true) : LitL r := fun y hy => by
  have l := List.all_eq_true.mp h y hy
  refine ⟨?_, lit_short l⟩
  have lo : lowZ (bareS y) = true := l
  by_cases n : negS y = true
  · have e := dash_bare n
    rw [← e, len_dash]
    omega
  · rw [bare_of_pos n] at lo
    exact (low_parts lo).1
/-- no row is broken -/
def fits (rows : List (List Str)) (o : List Str) : Bool := rows.all fun r => !breaksB o r
/-- of the parts os of ns those that fill the rows -/
def fillsOf (rows : List (List Str)) (ns : List Str) (os : List (List Str)) : List (List Str) := ((asc os).filter fun o => decide (o.length = ns.length)).filter (fits rows)
theorem rows_filt {H : Hp} {ps : List Rs} (h : RowsAt H ps) (t : Rs → Bool) : RowsAt H (ps.filter t) := fun p hp => h p (List.mem_filter.mp hp).1
theorem filt_snd (t : List Str → Bool) : ∀ ps : List Rs, (ps.filter fun p => t p.2).map (·.2) = (ps.map (·.2)).filter t
  | [] => rfl
  | p :: ps => by
    rw [List.filter_cons, List.map_cons, List.filter_cons, ← filt_snd t ps]
    split <;> rfl
section
variable {P : Program} {w : World} {K : PySem.W.Frag} {mg : Str → Option Value} {base : Heap}
/-! ### _law_fillings -/
abbrev sFills : Stmt := top 56
def spFills (K : PySem.W.Frag) : Sp := fun vs H Q _ => ∃ (a q : Addr) (ps : List Rs) (ns : List Str), vs = [.ref a, .ref q] ∧ SqL K H a (refs ps) ∧ RowsAt H ps ∧ ps.length ≤ 2000 ∧ (∀ r ∈ ps, r.2.all litS = true ∧ r.2.length < 30) ∧ SqL K H q (ns.map V.str) ∧ ns.length ≤ 6 ∧ ns.Nodup ∧ ns.all lowZ = true ∧
  ∀ H' r os, Same H H' → NewRows H H' r (fillsOf (ps.map (·.2)) ns os) → Paired (fun w o => InOrd o w) (partsU ns) os → Q (.ref r) H'
theorem sc_fills : FnScope ["_law_rows_here", "_law_names_here", "_law_found", "_law_part"] ["_law_rows_here", "_law_names_here"] (defScope sFills) := ⟨rfl, rfl, rfl, by decide +kernel, rfl, by decide +kernel, by decide +kernel⟩
theorem ok_fills {f : Addr} {fd : FuncData} (G : Fun K "_law_fillings" "_law_fillings" sFills f fd) (B : Pts mg) (FP : FN P w K mg base "_law_parts" 1 ["_law_names_here"] (spParts2 K)) (FB : FN P w K mg base "_law_broken" 3 ["_law_rows_here", "_law_part"] (spFilt K)) :
    FnOk P w K mg base CX0 4 f fd ["_law_rows_here", "_law_names_here"] (spFills K) := by
  have sc := sc_fills
  obtain ⟨fP, dP, mP, kP, OP, bP⟩ := FP
  obtain ⟨fB, dB, mB, kB, OB, bB⟩ := FB
  refine G.ok sc (fun vs H Q E h => ?_) (fun cdv A outer s H vs Q E hr h => ?_)
  · obtain ⟨_, _, _, _, rfl, _⟩ := h
    rfl
  · obtain ⟨a, q, ps, ns, rfl, hS, hrow, few, lit, hN, h6, nd, lo, k⟩ := h
    have hr1 : Room 1 _ := hr.mono (by decide)
    refine ⟨_, pss_cons (ps_setLc (i := 2) (own := [("_law_part", 3)]) (g := gName 3) (te := tVar 3) (tt := tB (tOp rEq (tCB (rLenQ K) (tCons (tVar 3) tNil)) (tCB (rLenQ K) (tCons (tVar 1) tNil)))) rfl sc.nd rfl (by rfl) (by rfl) (pi_list (pe_call OP hr1 rfl mP kP bP .nil pass0 (pa_cons (pv 1) pa_nil)))
        (blkOk_by (N := ["_law_rows_here", "_law_names_here", "_law_found", "_law_part"]) (sc := defScope sFills) (by decide +kernel)) (fun _ _ _ _ _ => pg_name (i := 3) sc.nd rfl (Or.inl rfl)) (fun _ _ _ _ _ => pts_one (pt_cmpR op_eq (pe_callB cr_lenQ (by rfl) B.len boot_len (pa_cons (pv 3) pa_nil)) (pe_callB cr_lenQ (by rfl) B.len boot_len (pa_cons (pv 1) pa_nil)) (nomark _)))
        (fun _ _ _ _ _ => pv 3))
      (pss_one (ps_ret (pe_lc (own := [("_law_part", 3)]) (g := gName 3) (te := tVar 3) (tt := tB (tOp (rEqD K) (tCall (spFilt K) [] E0 (tCons (tVar 0) (tCons (tVar 3) tNil))) (tLst tNil))) rfl sc.nd (pi_sq (pv 2))
        (blkOk_by (N := ["_law_rows_here", "_law_names_here", "_law_found", "_law_part"]) (sc := defScope sFills) (by decide +kernel)) (fun _ _ _ _ _ => pg_name (i := 3) sc.nd rfl (Or.inl rfl)) (fun _ _ _ _ _ => pts_one (pt_cmpR (op_eqD hr.units) (pe_call OB hr rfl mB kB bB .nil pass0 (pa_cons (pv 0) (pa_cons (pv 3) pa_nil))) (pe_lst pa_nil) (nomark _)))
        (fun _ _ _ _ _ => pv 3)))), ?_⟩
    refine ⟨_, rfl, q, ns, rfl, hN, h6, nd, lo, fun H1 z os s1 nr pr => ?_⟩
    obtain ⟨nz, ts, hz, rz, mz⟩ := nr
    have lts : ts.length ≤ 729 := by
      have h1 := congrArg List.length mz
      have h2 := (asc_perm os).length_eq
      have h3 := pr.length
      have h4 := partsU_len ns
      rw [List.length_map] at h1
      have := pow3 h6
      omega
    refine ⟨z, rfl, ⟨_, SqL.of hz⟩, ?_⟩
    refine fun D nD => rel_lst (g := gName 3) (te := tVar 3) (tt := tB (tOp rEq (tCB (rLenQ K) (tCons (tVar 3) tNil)) (tCB (rLenQ K) (tCons (tVar 1) tNil)))) (vs := [3]) (σ := [some (.ref a), some (.ref q), none, none]) (Q := fun x H1 => gName 2 x [some (.ref a), some (.ref q), none, none] H1 _) (fun x => decide ((strsV (itemsAt H1 x)).length = ns.length)) (fun x y _ => y = x) (fun x y H H' D l e _ _ => e) (SqL.of hz) (by rw [refs, List.length_map, sizeLine_eq]; omega) (fun x H2 Ψ Θ hx s2 yes no => ?_) (fun H2 D' ys s2 nD' h2 pr2 => ?_) D nD
    · obtain ⟨r, hr', rfl⟩ := List.mem_map.mp hx
      have hrr := rz r hr'
      have e : strsV (itemsAt H1 (.ref r.1)) = r.2 := by rw [itemsAt_of hrr, strsV_map]
      walk_at "go"
      refine ⟨r.1, _, rfl, .inr (SqT.of (s2 _ _ hrr)), ?_⟩
      refine ⟨_, rfl, q, _, rfl, .inl (sqL_same hN (same_trans s1 s2)), ?_⟩
      refine ⟨rfl, _, rfl, ?_⟩
      rw [List.length_map, List.length_map]
      by_cases c : r.2.length = ns.length
      · rw [show decide (V.int ((r.2.length : Nat) : Int) = V.int ((ns.length : Nat) : Int)) = true by rw [c]; simp]
        exact ⟨_, rfl, yes (by rw [e]; exact decide_eq_true c) _ H2 (same_refl _) rfl⟩
      · rw [show decide (V.int ((r.2.length : Nat) : Int) = V.int ((ns.length : Nat) : Int)) = false from decide_eq_false fun z => c (by injection z with z; omega)]
        exact no (by rw [e]; exact decide_eq_false c) H2 (same_refl _)
    · have e1 := prd_eq pr2
      subst e1
      rw [filt_refs (H := H1) (fun o => decide (o.length = ns.length)) rz] at h2
      have s12 := same_trans s1 s2
      have rf := rows_same (rows_filt rz fun p => decide (p.2.length = ns.length)) s2
      have lf : (ts.filter fun p => decide (p.2.length = ns.length)).length ≤ 729 := Nat.le_trans (List.length_filter_le ..) lts
      have ef := filt_snd (fun o => decide (o.length = ns.length)) ts
      generalize ts.filter (fun p => decide (p.2.length = ns.length)) = fs at h2 rf lf ef
      dsimp only [gName, tSeq, tRet]
      have key : ∀ (r : Rs) (hr' : r ∈ fs), decide (ps.filter (fun x => breaksB r.2 x.2) = []) = fits (ps.map (·.2)) r.2 := fun r _ => by
        unfold fits
        rw [List.all_map, Bool.eq_iff_iff, decide_eq_true_eq, List.filter_eq_nil_iff, List.all_eq_true]
        exact ⟨fun h x hx => by simpa using h x hx, fun h x hx => by simpa using h x hx⟩
      refine rel_seq (fun x => fits (ps.map (·.2)) (strsV (itemsAt H2 x))) (fun x y _ => y = x) (fun x y H H' D l e _ _ => e) rfl (.inl (SqL.of h2)) (by rw [refs, List.length_map, sizeLine_eq]; omega) (fun x H3 Ψ Θ hx s3 yes no => ?_) (fun H3 D2 ys s3 nD2 h3 pr3 => ?_)
      · obtain ⟨r, hr', rfl⟩ := List.mem_map.mp hx
        have hrr := rf r hr'
        have e : strsV (itemsAt H2 (.ref r.1)) = r.2 := by rw [itemsAt_of hrr, strsV_map]
        have s13 := same_trans s12 s3
        walk_at "go"
        refine ⟨a, r.1, ps, r.2, rfl, sqL_same hS s13, rows_same hrow s13, few, fun x hx => ⟨lit_litL (lit x hx).1, by have := (lit x hx).2; omega⟩, .inr (SqT.of (s3 _ _ hrr)), fun H4 u s4 nu hu => ?_⟩
        refine ⟨(by show 0 ≤ sizeLine; decide), fun D5 nD5 => ?_⟩
        have s5 := same_new (H := H4) (o := .lst []) nD5
        have rfil := rows_filt (rows_same hrow (same_trans s13 (same_trans s4 s5))) fun x => breaksB r.2 x.2
        refine ⟨.list (((ps.filter fun x => breaksB r.2 x.2).map (·.2)).map encR), .list [], .lst (SqL.of (s5 _ _ hu)) (dp_rows rfil), .lst (SqL.of upd_same) .nil, shaped_lst (fun x hx => ?_), by rfl, ?_⟩
        · obtain ⟨y, hy, rfl⟩ := List.mem_map.mp hx
          exact lits_okR (lit y (List.mem_filter.mp hy).1).1
        rw [PyData.eqv, show ([] : List PyData) = ([] : List (List Str)).map encR from rfl, eqv_rows]
        have e3 : decide ((ps.filter fun x => breaksB r.2 x.2).map (·.2) = []) = fits (ps.map (·.2)) r.2 := by
          rw [← key r hr', Bool.eq_iff_iff, decide_eq_true_eq, decide_eq_true_eq, List.map_eq_nil_iff]
        rw [e3]
        have s35 := same_trans s4 s5
        refine ⟨_, rfl, ?_⟩
        cases hb : fits (ps.map (·.2)) r.2 with
        | true => exact ⟨_, rfl, yes (by show fits _ (strsV (itemsAt H2 (.ref r.1))) = true; rw [e, hb]) _ _ s35 rfl⟩
        | false => exact no (by show fits _ (strsV (itemsAt H2 (.ref r.1))) = false; rw [e, hb]) _ s35
      · have e2 := prd_eq pr3
        subst e2
        rw [filt_refs (H := H2) (fits (ps.map (·.2))) rf] at h3
        have s13 := same_trans s12 s3
        refine k H3 D2 os s13 ⟨same_free s12 nD2, _, h3, rows_filt (rows_same rf s3) _, ?_⟩ pr
        rw [filt_snd, ef, mz]
        rfl
end
end My
end

section
set_option Elab.async false
set_option linter.all false
set_option maxRecDepth 100000
set_option maxHeartbeats 4000000
namespace My
local macro_rules | `(tactic| walk_at "go") => `(tactic| (repeat (first
  | (refine ⟨_, rfl, ?_⟩)
  | (refine ⟨_, _, rfl, rfl, ?_⟩)
  | (refine ⟨_, _, rfl, ?_⟩)
  | (refine ⟨rfl, ?_⟩)
  | (refine Or.inl ⟨_, rfl, ?_⟩)
  | (refine ⟨_, _, _, _, rfl, rfl, L2.SqL.of (by first | assumption | exact L2.upd_same), rfl, ?_⟩)
  | (refine ⟨_, _, _, _, rfl, rfl, (by first | assumption | exact L2.upd_same), rfl, ?_⟩)
  | (refine And.intro (by first | omega | decide | (unfold L2.CPow; decide) | (unfold L2.CMul; omega) | (unfold L2.CDiv; omega)) ?_))))
open PySem PySem.Spec PyProof.Rows L2 TL MyF MyS MyW RZ MyR MyT MyQ MyV MyZ
/-- rows over the names ns, one to six texts each -/
def GoodRs (ns : List Str) (rs : List (List Str)) : Prop := ∀ r ∈ rs, Good ns r ∧ 1 ≤ r.length ∧ r.length ≤ 6
/-- ascending, none twice -/
structure UpNd (rs : List (List Str)) : Prop where
  up : rs.Pairwise fun a b => leR a b = true
  nd : rs.Nodup
theorem upnd_uni (rs : List (List Str)) : UpNd (uni rs) := ⟨uni_up rs, uni_nd rs⟩
theorem nd_fewG {α : Type} [BEq α] [LawfulBEq α] {L few : List α} (n : L.Nodup) (h : ∀ y ∈ L, y ∈ few) : L.length ≤ few.length := by
  induction L generalizing few with
  | nil => exact Nat.zero_le _
  | cons x L ih =>
    obtain ⟨n1, n2⟩ := List.nodup_cons.mp n
    have hx := h x List.mem_cons_self
    have q := ih (few := few.erase x) n2 fun y hy => (List.mem_erase_of_ne fun (e : y = x) => n1 (e ▸ hy)).mpr (h y (List.mem_cons_of_mem _ hy))
    have z := List.length_erase_of_mem hx
    have pos : 0 < few.length := List.length_pos_of_mem hx
    rw [List.length_cons]
    omega
theorem uni_len (rs : List (List Str)) : (uni rs).length ≤ rs.length := nd_fewG (uni_nd rs) fun r hr => (mem_uni (rs := rs)).mp hr
section
variable {P : Program} {w : World} {K : PySem.W.Frag} {mg : Str → Option Value} {base : Heap}
/-! ### _law_drawn -/
abbrev sDrawnR : Stmt := top 58
def spDrawnR (K : PySem.W.Frag) : Sp := fun vs H Q _ => ∃ (p q : Addr) (n many : Int) (l : List V) (ns : List Str), vs = [.ref p, .ref q, .int many] ∧ H p = some (.lst l) ∧ PurseL n l ∧ n ≤ 600000 ∧ SqL K H q (ns.map V.str) ∧ q ≠ p ∧ ns.Nodup ∧ ns.all lowZ = true ∧ 1 ≤ ns.length ∧ ns.length ≤ 6 ∧ 0 ≤ many ∧ many ≤ 10 ∧
  ∀ (H' : Hp) (r : Addr) (l' : List V) (qs : List Rs), But p H H' → H' p = some (.lst l') → PurseL (n + 20 * many) l' → H r = none → H' r = some (.lst (refs qs)) → RowsAt H' qs → UpNd (qs.map (·.2)) → GoodRs ns (qs.map (·.2)) → (qs.length : Int) ≤ many → Q (.ref r) H'
theorem sc_drawnr : FnScope ["_law_purse_here", "_law_names_here", "_law_many", "_law_turn"] ["_law_purse_here", "_law_names_here", "_law_many"] (defScope sDrawnR) := ⟨rfl, rfl, rfl, by decide +kernel, rfl, by decide +kernel, by decide +kernel⟩
theorem ok_drawnr {f : Addr} {fd : FuncData} (G : Fun K "_law_drawn" "_law_drawn" sDrawnR f fd) (B : Bts mg) (FR : FN P w K mg base "_law_rows" 1 ["_law_clauses"] (spRows K)) (FD : FN P w K mg base "_law_drawn_clause" 4 ["_law_purse_here", "_law_names_here", "_law_most"] (spDrawn K)) :
    FnOk P w K mg base CX0 5 f fd ["_law_purse_here", "_law_names_here", "_law_many"] (spDrawnR K) := by
  have sc := sc_drawnr
  obtain ⟨fR, dR, mR, kR', OR, bR⟩ := FR
  obtain ⟨fD, dD, mD, kD, OD, bD⟩ := FD
  refine G.ok sc (fun vs H Q E h => ?_) (fun cdv A outer s H vs Q E hr h => ?_)
  · obtain ⟨_, _, _, _, _, _, rfl, _⟩ := h
    rfl
  · obtain ⟨p, q, n, many, l, ns, rfl, hp, hl, hn, hN, nqp, nd, lo, n1, n6, m0, m10, k⟩ := h
    have hr1 : Room 1 _ := hr.mono (by decide)
    refine ⟨_, pss_one (ps_ret (pe_call OR hr1 rfl mR kR' bR .nil pass0 (pa_cons (pe_lc (own := [("_law_turn", 3)]) (g := gName 3) (tt := tYes) rfl sc.nd (pi_range1 rfl B.range (pa_cons (pv 2) pa_nil))
        (blkOk_by (N := ["_law_purse_here", "_law_names_here", "_law_many", "_law_turn"]) (sc := defScope sDrawnR) (by decide +kernel)) (fun _ _ _ _ _ => pg_name (i := 3) sc.nd rfl (Or.inl rfl)) (fun _ _ _ _ _ => pts_nil)
        (fun _ _ _ _ _ => pe_call OD hr rfl mD kD bD .nil pass0 (pa_cons (pv 0) (pa_cons (pv 1) (pa_cons pe_int pa_nil))))) pa_nil))), ?_⟩
    walk_at "go"
    refine fun D nD => ?_
    have nDp : D ≠ p := fun z => by
      rw [z, hp] at nD
      cases nD
    refine lc_range (lo := 0) (n := many.toNat) (fun i H2 => i ≤ many.toNat ∧ ∃ (l' : List V) (ps : List Rs), ps.length = i ∧ But p H H2 ∧ H2 p = some (.lst l') ∧ PurseL (n + 20 * (i : Int)) l' ∧ H2 D = some (.lst (refs ps)) ∧ RowsAt H2 ps ∧ GoodRs ns (ps.map (·.2))) ?_ ?_ ?_
    · exact ⟨Nat.zero_le _, l, [], rfl, .of (same_new nD), by rw [upd_ne nDp.symm]; exact hp, by simpa using hl, upd_same, fun _ h => (nomatch h), fun _ h => (nomatch h)⟩
    · rintro i H2 hi ⟨_, l', ps, len, bu, hp2, hl2, hD, rp, gd⟩
      walk_at "go"
      refine ⟨p, q, n + 20 * (i : Int), 3, l', ns, rfl, hp2, hl2, by omega, bu.sqL hN nqp, nqp, nd, lo, n1, n6, by decide, by decide, fun H3 t l3 rs bu3 hp3 hl3 nt ht g r1 r6 => ?_⟩
      have nt' : H2 t = none := nt
      have tD : t ≠ D := fun z => by
        rw [z, hD] at nt'
        cases nt'
      have hD3 : H3 D = some (.lst (refs ps)) := bu3 _ _ hD nDp
      have tp : t ≠ p := fun z => by
        rw [z, hp2] at nt'
        cases nt'
      have far : ∀ b o, H3 b = some o → b ≠ D → upd H3 D (.lst (refs ps ++ [V.ref t])) b = some o := fun b o e ne => by rw [upd_ne ne]; exact e
      refine ⟨_, hD3, by rw [refs, List.length_map, sizeLine_eq]; omega, hi, l3, ps ++ [(t, rs)], by rw [List.length_append, len]; rfl, fun b o e ne => far b o (bu3 b o (bu b o e ne) ne) (ne_of_none e nD), far p _ hp3 nDp.symm, by
        have e : n + 20 * ((i + 1 : Nat) : Int) = n + 20 * (i : Int) + 20 := by omega
        rw [e]
        exact hl3, by rw [upd_same, refs, refs, List.map_append] <;> rfl, fun x hx => ?_, fun r hr' => ?_⟩
      · rcases List.mem_append.mp hx with hx | hx
        · have h2 := rp x hx
          exact far _ _ (bu3 _ _ h2 (ne_of h2 hp2 (by intro z; cases z))) (ne_of h2 hD (by intro z; cases z))
        · rw [List.mem_singleton.mp hx]
          exact far _ _ ht tD
      · rw [List.map_append] at hr'
        rcases List.mem_append.mp hr' with hr' | hr'
        · exact gd r hr'
        · rw [List.mem_singleton.mp hr']
          exact ⟨g, r1, r6⟩
    · rintro H2 ⟨_, l', ps, len, bu, hp2, hl2, hD, rp, gd⟩
      refine ⟨D, ps, rfl, SqL.of hD, rp, by omega, fun H3 r s3 nr => ?_⟩
      obtain ⟨nr2, qs, hr2, rq, eq⟩ := nr
      have nrH : H r = none := by
        cases z : H r with
        | none => rfl
        | some o =>
          by_cases c : r = p
          · rw [c, hp2] at nr2
            cases nr2
          · have := bu r o z c
            rw [nr2] at this
            cases this
      refine k H3 r l' qs (bu.trans (.of s3)) (s3 _ _ hp2) (by
        have e : n + 20 * (many.toNat : Int) = n + 20 * many := by omega
        rw [← e]
        exact hl2) nrH hr2 rq (eq ▸ upnd_uni _) (fun x hx => gd x (mem_uni.mp (eq ▸ hx))) ?_
      have h1 := congrArg List.length eq
      have h2 := uni_len (ps.map (·.2))
      rw [List.length_map] at h1 h2
      omega
end
end My
end

section
set_option Elab.async false
set_option linter.all false
set_option maxRecDepth 100000
set_option maxHeartbeats 4000000
namespace My
local macro_rules | `(tactic| walk_at "go") => `(tactic| (repeat (first
  | (refine ⟨_, rfl, ?_⟩)
  | (refine ⟨_, _, rfl, rfl, ?_⟩)
  | (refine ⟨_, _, rfl, ?_⟩)
  | (refine ⟨rfl, ?_⟩)
  | (refine Or.inl ⟨_, rfl, ?_⟩)
  | (refine ⟨_, _, _, _, rfl, rfl, L2.SqL.of (by first | assumption | exact L2.upd_same), rfl, ?_⟩)
  | (refine ⟨_, _, _, _, rfl, rfl, (by first | assumption | exact L2.upd_same), rfl, ?_⟩)
  | (refine And.intro (by first | omega | decide | (unfold L2.CPow; decide) | (unfold L2.CMul; omega) | (unfold L2.CDiv; omega)) ?_))))
open PySem PySem.Spec PyProof.Rows L2 TL MyF MyS MyW RZ MyR MyT MyQ MyV MyZ
/-! ### the mathematics of fillings -/
theorem ords_uniq : ∀ {ws os us : List (List Str)}, Paired (fun w o => InOrd o w) ws os → Paired (fun w o => InOrd o w) ws us → os = us
  | _, _, _, .nil, .nil => rfl
  | _, _, _, .cons h t, .cons h' t' => by rw [h.uniq h' fun _ => Iff.rfl, ords_uniq t t']
theorem ord_len {o w : List Str} (h : InOrd o w) (n : w.Nodup) : o.length = w.length := Nat.le_antisymm h.le (nd_fewG n fun y hy => (h.mem y).mpr hy)
theorem full_count {ns : List Str} : ((partsU ns).filter fun w => decide (w.length = ns.length)).length ≤ 2 ^ ns.length := by
  have all : ∀ ns : List Str, (∀ w ∈ partsU ns, w.length ≤ ns.length) ∧ ((partsU ns).filter fun w => decide (w.length = ns.length)).length ≤ 2 ^ ns.length := by
    refine rev_ind ⟨fun w h => by rw [List.mem_singleton.mp h]; exact Nat.le_refl _, by decide⟩ fun l n ih => ?_
    have hl : (l ++ [n]).length = l.length + 1 := by rw [List.length_append, List.length_singleton]
    refine ⟨fun w h => ?_, ?_⟩
    · rw [partsU_snoc] at h
      rw [hl]
      rcases List.mem_append.mp h with h | h
      · rcases List.mem_append.mp h with h | h
        · exact Nat.le_succ_of_le (ih.1 w h)
        · obtain ⟨u, hu, rfl⟩ := List.mem_map.mp h
          rw [List.length_append, List.length_singleton]
          exact Nat.succ_le_succ (ih.1 u hu)
      · obtain ⟨u, hu, rfl⟩ := List.mem_map.mp h
        rw [List.length_append, List.length_singleton]
        exact Nat.succ_le_succ (ih.1 u hu)
    · have none' : (partsU l).filter (fun w => decide (w.length = (l ++ [n]).length)) = [] := List.filter_eq_nil_iff.mpr fun w hw => by
        have := ih.1 w hw
        rw [hl, decide_eq_true_eq]
        omega
      have mp : ∀ x : Str, ((partsU l).map (· ++ [x])).filter (fun w => decide (w.length = (l ++ [n]).length)) = ((partsU l).filter fun w => decide (w.length = l.length)).map (· ++ [x]) := fun x => by
        rw [List.filter_map]
        congr 1
        refine List.filter_congr fun w _ => ?_
        show decide ((w ++ [x]).length = (l ++ [n]).length) = _
        rw [hl, List.length_append, List.length_singleton]
        simp
      rw [partsU_snoc, stepP, List.filter_append, List.filter_append, none', mp, mp, List.nil_append, List.length_append, List.length_map, List.length_map, hl, Nat.pow_succ]
      have := ih.2
      omega
  exact (all ns).2
theorem prd_filter_len : ∀ {ws os : List (List Str)} {k : Nat}, Paired (fun w o => InOrd o w) ws os → (∀ w ∈ ws, w.Nodup) → (os.filter fun o => decide (o.length = k)).length = (ws.filter fun w => decide (w.length = k)).length
  | _, _, _, .nil, _ => rfl
  | _, _, k, .cons (a := w) (b := o) h t, n => by
    have e := ord_len h (n w List.mem_cons_self)
    have q := prd_filter_len (k := k) t fun x hx => n x (List.mem_cons_of_mem _ hx)
    rw [List.filter_cons, List.filter_cons, e]
    split
    · rw [List.length_cons, List.length_cons, q]
    · exact q
theorem fills_le {rows os : List (List Str)} {ns : List Str} (nd : ns.Nodup) (lo : ns.all lowZ = true) (pr : Paired (fun w o => InOrd o w) (partsU ns) os) : (fillsOf rows ns os).length ≤ 2 ^ ns.length := by
  refine Nat.le_trans (List.length_filter_le ..) ?_
  have h1 : ((asc os).filter fun o => decide (o.length = ns.length)).length = (os.filter fun o => decide (o.length = ns.length)).length := ((asc_perm os).filter _).length_eq
  rw [h1, prd_filter_len pr fun w hw => (partsU_nd nd lo w hw).1]
  exact full_count
/-- a filling is a row of all names -/
theorem fills_row {rows os : List (List Str)} {ns : List Str} (nd : ns.Nodup) (lo : ns.all lowZ = true) (pr : Paired (fun w o => InOrd o w) (partsU ns) os) {o : List Str} (h : o ∈ fillsOf rows ns os) : Good ns o ∧ o.length = ns.length ∧ fits rows o = true := by
  obtain ⟨h1, h2⟩ := List.mem_filter.mp h
  obtain ⟨h3, h4⟩ := List.mem_filter.mp h1
  have h5 : o ∈ os := mem_asc.mp h3
  have find : ∀ {ws os : List (List Str)}, Paired (fun w o => InOrd o w) ws os → ∀ o ∈ os, ∃ w ∈ ws, InOrd o w := by
    intro ws os p
    induction p with
    | nil => exact fun o h => nomatch h
    | cons h t ih =>
      intro o ho
      rcases List.mem_cons.mp ho with rfl | ho
      · exact ⟨_, List.mem_cons_self, h⟩
      · obtain ⟨w, hw, k⟩ := ih o ho
        exact ⟨w, List.mem_cons_of_mem _ hw, k⟩
  obtain ⟨w, hw, io⟩ := find pr o h5
  obtain ⟨ss, sg, sub⟩ := partsU_sgs ns w hw
  exact ⟨(good_of sg (nd.sublist sub) (fun s hs => sub.subset hs) lo io).1, of_decide_eq_true h4, h2⟩
/-- one clause more, of contraries of a filling: there are fewer fillings -/
theorem fills_less {rows os : List (List Str)} {ns : List Str} {o r : List Str} (h : o ∈ fillsOf rows ns os) (b : breaksB o r = true) : (fillsOf (uni (rows ++ [r])) ns os).length < (fillsOf rows ns os).length := by
  have sub : ∀ x, fits (uni (rows ++ [r])) x = true → fits rows x = true := fun x hx => List.all_eq_true.mpr fun y hy => List.all_eq_true.mp hx y (mem_uni.mpr (List.mem_append_left _ hy))
  have no : fits (uni (rows ++ [r])) o = false := by
    refine Bool.eq_false_iff.mpr fun z => ?_
    have := List.all_eq_true.mp z r (mem_uni.mpr (List.mem_append_right _ (List.mem_singleton.mpr rfl)))
    rw [b] at this
    cases this
  unfold fillsOf at h ⊢
  generalize (asc os).filter (fun o => decide (o.length = ns.length)) = L at h ⊢
  induction L with
  | nil => cases h
  | cons x L ih =>
    have le : ∀ M : List (List Str), (M.filter (fits (uni (rows ++ [r])))).length ≤ (M.filter (fits rows)).length := fun M => by
      induction M with
      | nil => exact Nat.le_refl _
      | cons y M ihM =>
        rw [List.filter_cons, List.filter_cons]
        by_cases c : fits (uni (rows ++ [r])) y = true
        · rw [if_pos c, if_pos (sub y c)]
          exact Nat.succ_le_succ ihM
        · rw [if_neg c]
          split
          · exact Nat.le_succ_of_le ihM
          · exact ihM
    rw [List.filter_cons, List.filter_cons]
    by_cases c : fits (uni (rows ++ [r])) x = true
    · rw [if_pos c, if_pos (sub x c)]
      refine Nat.succ_lt_succ (ih ?_)
      rw [List.filter_cons, if_pos (sub x c)] at h
      rcases List.mem_cons.mp h with rfl | h
      · rw [no] at c
        cases c
      · exact h
    · rw [if_neg c]
      rw [List.filter_cons] at h
      by_cases c2 : fits rows x = true
      · rw [if_pos c2]
        exact Nat.lt_succ_of_le (le L)
      · rw [if_neg c2] at h ⊢
        exact ih h
end My
end

section
set_option Elab.async false
set_option linter.all false
set_option maxRecDepth 100000
set_option maxHeartbeats 4000000
namespace My
local macro_rules | `(tactic| walk_at "go") => `(tactic| (repeat (first
  | (refine ⟨_, rfl, ?_⟩)
  | (refine ⟨_, _, rfl, rfl, ?_⟩)
  | (refine ⟨_, _, rfl, ?_⟩)
  | (refine ⟨rfl, ?_⟩)
  | (refine Or.inl ⟨_, rfl, ?_⟩)
  | (refine ⟨_, _, _, _, rfl, rfl, L2.SqL.of (by first | assumption | exact L2.upd_same), rfl, ?_⟩)
  | (refine ⟨_, _, _, _, rfl, rfl, (by first | assumption | exact L2.upd_same), rfl, ?_⟩)
  | (refine And.intro (by first | omega | decide | (unfold L2.CPow; decide) | (unfold L2.CMul; omega) | (unfold L2.CDiv; omega)) ?_))))
open PySem PySem.Spec PyProof.Rows L2 TL MyF MyS MyW RZ MyR MyT MyQ MyV MyZ
theorem strs_perm {ys : List V} {ns : List Str} (pm : ys.Perm (ns.map V.str)) : ∃ zs : List Str, ys = zs.map V.str ∧ zs.Perm ns := by
  have go : ∀ l : List V, (∀ x ∈ l, ∃ z, x = V.str z) → l = (strsV l).map V.str := by
    intro l
    induction l with
    | nil => intro _; rfl
    | cons x l ih =>
      intro h
      obtain ⟨z, rfl⟩ := h x (List.mem_cons_self ..)
      show V.str z :: l = V.str z :: (strsV l).map V.str
      rw [← ih fun y hy => h y (List.mem_cons_of_mem _ hy)]
  have e := go ys fun x hx => by
    obtain ⟨z, _, e⟩ := List.mem_map.mp (pm.mem_iff.mp hx)
    exact ⟨z, e.symm⟩
  refine ⟨strsV ys, e, ?_⟩
  have q := pm.filterMap (fun | .str z => some z | _ => none)
  have e2 : (ns.map V.str).filterMap (fun | .str z => some z | _ => none) = ns := by
    rw [List.filterMap_map]
    exact List.filterMap_some
  rw [e2] at q
  exact q
theorem good_litS {ns r : List Str} (lo : ns.all lowZ = true) (g : Good ns r) : r.all litS = true := List.all_eq_true.mpr fun y hy => by
  obtain ⟨s, hs, sg⟩ := g.lit y hy
  exact sg.lit (List.all_eq_true.mp lo s hs)
theorem two_ways {c : Bool} {ta tb : TE} {σ : L2.St} {H : Hp} {Q : VK} (Pv : V → Hp → Prop) (cont : ∀ v H', Pv v H' → Q v H') (h : ∀ Q' : VK, (∀ v H', Pv v H' → Q' v H') → if c = true then ta σ H Q' else tb σ H Q') : if c = true then ta σ H Q else tb σ H Q := h Q cont
/-- no filling is left -/
def NoFill (rows : List (List Str)) (ns : List Str) : Prop := ∀ os, Paired (fun w o => InOrd o w) (partsU ns) os → fillsOf rows ns os = []
section
variable {P : Program} {w : World} {K : PySem.W.Frag} {mg : Str → Option Value} {base : Heap}
/-! ### _law_unfilled -/
abbrev sUnf : Stmt := top 59
def spUnf (K : PySem.W.Frag) : Sp := fun vs H Q _ => ∃ (p q : Addr) (n many : Int) (l : List V) (ns : List Str), vs = [.ref p, .ref q, .int many] ∧ H p = some (.lst l) ∧ PurseL n l ∧ n ≤ 500000 ∧ SqL K H q (ns.map V.str) ∧ q ≠ p ∧ ns.Nodup ∧ ns.all lowZ = true ∧ 1 ≤ ns.length ∧ ns.length ≤ 5 ∧ 0 ≤ many ∧ many ≤ 10 ∧
  ∀ (H' : Hp) (r : Addr) (l' : List V) (qs : List Rs), But p H H' → H' p = some (.lst l') → PurseL (n + 600) l' → H r = none → H' r = some (.lst (refs qs)) → RowsAt H' qs → UpNd (qs.map (·.2)) → GoodRs ns (qs.map (·.2)) → (qs.length : Int) ≤ many + 32 → NoFill (qs.map (·.2)) ns → Q (.ref r) H'
theorem sc_unf : FnScope ["_law_purse_here", "_law_names_here", "_law_many", "_law_rows_here", "_law_left", "_law_some", "_law_literal"] ["_law_purse_here", "_law_names_here", "_law_many"] (defScope sUnf) := ⟨rfl, rfl, rfl, by decide +kernel, rfl, by decide +kernel, by decide +kernel⟩
theorem ok_unf {f : Addr} {fd : FuncData} (G : Fun K "_law_unfilled" "_law_unfilled" sUnf f fd) (B : Pts mg) (FR : FN P w K mg base "_law_rows" 1 ["_law_clauses"] (spRows K)) (FD : FN P w K mg base "_law_drawn" 5 ["_law_purse_here", "_law_names_here", "_law_many"] (spDrawnR K)) (FF : FN P w K mg base "_law_fillings" 4 ["_law_rows_here", "_law_names_here"] (spFills K))
    (FS : FN P w K mg base "_law_shuffled" 3 ["_law_purse_here", "_law_some"] (spShuf K)) (FO : FN P w K mg base "_law_one_of" 3 ["_law_purse_here", "_law_some"] (spOne K)) (FW : FN P w K mg base "_law_draw" 2 ["_law_purse_here", "_law_many"] spDraw) (FC : FN P w K mg base "_law_clause" 1 ["_law_literals"] (spLCl K)) (FB : FN P w K mg base "_law_contrary" 1 ["_law_literal"] (spLOne oppS)) :
    FnOk P w K mg base CX0 6 f fd ["_law_purse_here", "_law_names_here", "_law_many"] (spUnf K) := by
  have sc := sc_unf
  obtain ⟨fR, dR, mR, kR', OR, bR⟩ := FR
  obtain ⟨fD, dD, mD, kD, OD, bD⟩ := FD
  obtain ⟨fF, dF, mF, kF, OF, bF⟩ := FF
  obtain ⟨fS, dS, mS, kS, OS, bS⟩ := FS
  obtain ⟨fO, dO, mO, kO, OO, bO⟩ := FO
  obtain ⟨fW, dW, mW, kW, OW, bW⟩ := FW
  obtain ⟨fC, dC, mC, kC, OC, bC⟩ := FC
  obtain ⟨fB, dB, mB, kB, OB, bB⟩ := FB
  refine G.ok sc (fun vs H Q E h => ?_) (fun cdv A outer s H vs Q E hr h => ?_)
  · obtain ⟨_, _, _, _, _, _, rfl, _⟩ := h
    rfl
  · obtain ⟨p, q, n, many, l, ns, rfl, hp, hl, hn, hN, nqp, nd, lo, n1, n5, m0, m10, k⟩ := h
    have hr1 : Room 1 _ := hr.mono (by decide)
    have hr2 : Room 2 _ := hr.mono (by decide)
    have hr3 : Room 3 _ := hr.mono (by decide)
    have hr4 : Room 4 _ := hr.mono (by decide)
    refine ⟨_, pss_cons (ps_set (i := 3) sc.nd rfl (Or.inl rfl) (pe_call OD hr rfl mD kD bD .nil pass0 (pa_cons (pv 0) (pa_cons (pv 1) (pa_cons (pv 2) pa_nil)))))
      (pss_cons (ps_set (i := 4) sc.nd rfl (Or.inl rfl) (pe_call OF hr4 rfl mF kF bF .nil pass0 (pa_cons (pv 3) (pa_cons (pv 1) pa_nil))))
      (pss_cons (ps_while PassesOwn.never (pt_cmpR (op_neD hr.units) (pv 4) (pe_lst pa_nil) (nomark _))
        (pss_cons (ps_set (i := 5) sc.nd rfl (Or.inl rfl) (pe_slice sl_list (pe_call OS hr3 rfl mS kS bS .nil pass0 (pa_cons (pv 0) (pa_cons (pe_callTy call_list_of (by rfl) B.list boot_list (pa_cons (pe_call OO hr3 rfl mO kO bO .nil pass0 (pa_cons (pv 0) (pa_cons (pv 4) pa_nil))) pa_nil)) pa_nil))) po_none
            (po_some (pe_ifExp (pt_cmpR op_lt (pe_callB call_len_seq (by rfl) B.len boot_len (pa_cons (pv 3) pa_nil)) pe_int (nomark _)) (pe_op op_add pe_int (pe_call OW hr2 rfl mW kW bW .nil pass0 (pa_cons (pv 0) (pa_cons pe_int pa_nil)))) pe_int))))
        (pss_cons (ps_set (i := 3) sc.nd rfl (Or.inl rfl) (pe_call OR hr1 rfl mR kR' bR .nil pass0 (pa_cons (pe_op op_cat (pv 3) (pe_lst (pa_cons (pe_call OC hr1 rfl mC kC bC .nil pass0 (pa_cons (pe_lc (own := [("_law_literal", 6)]) (g := gName 6) (tt := tYes) rfl sc.nd (pi_sq (pv 5))
            (blkOk_by (N := ["_law_purse_here", "_law_names_here", "_law_many", "_law_rows_here", "_law_left", "_law_some", "_law_literal"]) (sc := defScope sUnf) (by decide +kernel)) (fun _ _ _ _ _ => pg_name (i := 6) sc.nd rfl (Or.inl rfl)) (fun _ _ _ _ _ => pts_nil)
            (fun _ _ _ _ _ => pe_call OB hr1 rfl mB kB bB .nil pass0 (pa_cons (pv 6) pa_nil))) pa_nil)) pa_nil))) pa_nil)))
        (pss_one (ps_set (i := 4) sc.nd rfl (Or.inl rfl) (pe_call OF hr4 rfl mF kF bF .nil pass0 (pa_cons (pv 3) (pa_cons (pv 1) pa_nil))))))))
      (pss_one (ps_ret (pv 3))))), ?_⟩
    refine ⟨_, rfl, _, rfl, _, rfl, p, q, n, many, l, ns, rfl, hp, hl, by omega, hN, nqp, nd, lo, n1, by omega, m0, m10, fun H1 r l1 qs bu1 hp1 hl1 nr hr1' rq up1 gd1 len1 => ?_⟩
    have lits1 : ∀ {qs : List Rs}, GoodRs ns (qs.map (·.2)) → ∀ x ∈ qs, x.2.all litS = true ∧ x.2.length < 30 := fun gd x hx => by
      obtain ⟨g, _, g6⟩ := gd x.2 (List.mem_map.mpr ⟨x, hx, rfl⟩)
      exact ⟨good_litS lo g, by omega⟩
    refine ⟨_, rfl, _, rfl, r, q, qs, ns, rfl, SqL.of hr1', rq, by omega, lits1 gd1, bu1.sqL hN nqp, by omega, nd, lo, fun H2 u os s2 nu pr => ?_⟩
    obtain ⟨nu1, ts, hu, rt, et⟩ := nu
    have p32 : (2 : Nat) ^ ns.length ≤ 32 := Nat.le_trans (Nat.pow_le_pow_right (by decide) n5) (by decide)
    have fl : ∀ rows, (fillsOf rows ns os).length ≤ 32 := fun rows => Nat.le_trans (fills_le nd lo pr) p32
    have lt0 : ts.length ≤ 32 := by
      have h1 := congrArg List.length et
      rw [List.length_map] at h1
      rw [h1]
      exact fl _
    refine ⟨fun m σ H3 => ∃ (r u : Addr) (qs ts : List Rs) (l' : List V) (v5 : Option V), m = ts.length ∧ σ = [some (.ref p), some (.ref q), some (.int many), some (.ref r), some (.ref u), v5, none] ∧ But p H H3 ∧ H3 p = some (.lst l') ∧ PurseL (n + 200 + 10 * (32 - (m : Int))) l' ∧ H r = none ∧
      H3 r = some (.lst (refs qs)) ∧ RowsAt H3 qs ∧ UpNd (qs.map (·.2)) ∧ GoodRs ns (qs.map (·.2)) ∧ (qs.length : Int) + m ≤ many + 32 ∧ H3 u = some (.lst (refs ts)) ∧ u ≠ p ∧ RowsAt H3 ts ∧ ts.map (·.2) = fillsOf (qs.map (·.2)) ns os, ⟨ts.length, r, u, qs, ts, l1, none, rfl, rfl, bu1.trans (.of s2), s2 _ _ hp1, hl1.mono (by omega), nr, s2 _ _ hr1', rows_same rq s2, up1, gd1, by omega, hu, fun z => ?_, rt, et⟩, ?_⟩
    · rw [z, hp1] at nu1
      cases nu1
    rintro m σ H3 ⟨r, u, qs, ts, l', v5, rfl, rfl, bu, hp3, hl3, nr, hr3, rq, up, gd, len, hu, nup, rt, et⟩
    have m32 : ts.length ≤ 32 := by
      have h1 := congrArg List.length et
      rw [List.length_map] at h1
      rw [h1]
      exact fl _
    refine ⟨_, rfl, (by show 0 ≤ sizeLine; decide), fun D5 nD5 => ?_⟩
    have s5 := same_new (H := H3) (o := .lst []) nD5
    have gf : ∀ o ∈ ts, Good ns o.2 ∧ o.2.length = ns.length ∧ fits (qs.map (·.2)) o.2 = true := fun o ho => fills_row nd lo pr (et ▸ List.mem_map.mpr ⟨o, ho, rfl⟩)
    refine ⟨.list ((ts.map (·.2)).map encR), .list [], .lst (SqL.of (s5 _ _ hu)) (dp_rows (rows_same rt s5)), .lst (SqL.of upd_same) .nil, shaped_lst (fun x hx => ?_), by rfl, ?_⟩
    · obtain ⟨y, hy, rfl⟩ := List.mem_map.mp hx
      exact lits_okR (good_litS lo (gf y hy).1)
    rw [PyData.eqv, show ([] : List PyData) = ([] : List (List Str)).map encR from rfl, eqv_rows]
    refine ⟨_, rfl, ?_⟩
    cases ts with
    | nil =>
      refine iteF ?_
      refine ⟨_, rfl, k _ r l' qs (bu.trans (.of s5)) (s5 _ _ hp3) (hl3.mono (by simp; omega)) nr (s5 _ _ hr3) (rows_same rq s5) up gd (by simpa using len) fun os' pr' => ?_⟩
      rw [ords_uniq pr' pr, ← et]
      rfl
    | cons o1 ts' =>
      refine iteT ?_
      generalize htt : o1 :: ts' = ts at *
      have pos : 0 < ts.length := by rw [← htt]; exact Nat.succ_pos _
      have bu4 := bu.trans (.of s5)
      have hp4 := s5 _ _ hp3
      have hu4 := s5 _ _ hu
      have hr4' := s5 _ _ hr3
      have rq4 := rows_same rq s5
      have rt4 := rows_same rt s5
      have nrp : r ≠ p := fun z => by
        rw [z, hp] at nr
        cases nr
      generalize upd H3 D5 (.lst []) = H4 at bu4 hp4 hu4 hr4' rq4 rt4
      refine ⟨fun σ' H' => ∃ m', m' < ts.length ∧ ∃ (r u : Addr) (qs ts : List Rs) (l' : List V) (v5 : Option V), m' = ts.length ∧ σ' = [some (.ref p), some (.ref q), some (.int many), some (.ref r), some (.ref u), v5, none] ∧ But p H H' ∧ H' p = some (.lst l') ∧ PurseL (n + 200 + 10 * (32 - (m' : Int))) l' ∧ H r = none ∧
        H' r = some (.lst (refs qs)) ∧ RowsAt H' qs ∧ UpNd (qs.map (·.2)) ∧ GoodRs ns (qs.map (·.2)) ∧ (qs.length : Int) + m' ≤ many + 32 ∧ H' u = some (.lst (refs ts)) ∧ u ≠ p ∧ RowsAt H' ts ∧ ts.map (·.2) = fillsOf (qs.map (·.2)) ns os, fun σ' H' z => z, ?_⟩
      refine ⟨_, rfl, _, rfl, _, rfl, p, u, _, l', refs ts, rfl, hp4, hl3, by omega, SqL.of hu4, nup, by rw [refs, List.length_map]; exact pos, by rw [refs, List.length_map]; omega, fun l2 x hl2 hx => ?_⟩
      obtain ⟨o, ho, rfl⟩ := List.mem_map.mp hx
      obtain ⟨go, lenO, fitO⟩ := gf o ho
      have rtO := rt4 o ho
      have oNp : o.1 ≠ p := ne_of rtO hp4 (by intro z; cases z)
      refine ⟨o.1, _, rfl, .inr (SqT.of (by rw [upd_ne oNp]; exact rtO)), fun c nc => ?_⟩
      have ncp : c ≠ p := fun z => by
        rw [z, upd_same] at nc
        cases nc
      have bc : But p H4 (upd (upd H4 p (.lst l2)) c (.lst (o.2.map V.str))) := (But.set).trans (.of (same_new nc))
      refine ⟨p, c, _, l2, o.2.map V.str, rfl, by rw [upd_ne ncp.symm]; exact upd_same, hl2, by omega, SqL.of upd_same, ncp, by rw [List.length_map]; omega, fun H5 r5 l5 ys bu5 hp5 hl5 nr5 hys pm => ?_⟩
      have b45 := bc.trans bu5
      have n5p : r5 ≠ p := fun z => by
        have nr5' : upd (upd H4 p (.lst l2)) c (.lst (o.2.map V.str)) r5 = none := nr5
        rw [z, upd_ne ncp.symm, upd_same] at nr5'
        cases nr5'
      rw [List.length_map, lenO] at hl5
      refine ⟨_, rfl, r, _, rfl, .inl (SqL.of (b45 _ _ hr4' nrp)), ?_⟩
      refine ⟨_, _, rfl, rfl, _, rfl, ?_⟩
      obtain ⟨zs, rfl, pz⟩ := strs_perm pm
      refine two_ways (fun v H6 => ∃ (l6 : List V) (kk : Int), v = .int kk ∧ 1 ≤ kk ∧ kk ≤ 3 ∧ But p H5 H6 ∧ H6 p = some (.lst l6) ∧ PurseL (n + 200 + 10 * (32 - ((ts.length : Nat) : Int)) + 1 + ((ns.length : Nat) : Int) + 1) l6) ?_ ?_
      · rintro v H6 ⟨l6, kk, rfl, k1, k3, bu6, hp6, hl6⟩
        have h56 : H6 r5 = some (.lst (zs.map V.str)) := bu6 _ _ hys n5p
        have b46 := b45.trans bu6
        refine ⟨_, rfl, r5, _, rfl, SqL.of h56, fun c6 nc6 => ?_⟩
        rw [cutV_take _ _ (by omega), ← List.map_take]
        have s6 := same_new (H := H6) (o := .lst ((zs.take kk.toNat).map V.str)) nc6
        have subz : ∀ y ∈ zs.take kk.toNat, y ∈ o.2 := fun y hy => pz.mem_iff.mp (List.mem_of_mem_take hy)
        have lz : (zs.take kk.toNat).length = min kk.toNat ns.length := by rw [List.length_take, pz.length_eq, lenO]
        have ndz : (zs.take kk.toNat).Nodup := (pz.nodup_iff.mpr go.ord.nd).sublist (List.take_sublist ..)
        have h7c : upd H6 c6 (.lst ((zs.take kk.toNat).map V.str)) c6 = some (.lst ((zs.take kk.toNat).map V.str)) := upd_same
        generalize zs.take kk.toNat = sl at *
        have b47 := b46.trans (.of s6)
        have hp7 := s6 _ _ hp6
        generalize upd H6 c6 (.lst (sl.map V.str)) = H7 at b47 hp7 h7c
        dsimp only [tSeq, tAsg, tRet, tCB, tCons, tNil, tCall, tNext, gName]
        refine ⟨_, rfl, ?_⟩
        dsimp only [tCB, tCons, tNil, tCall, tLst]
        refine seq_lc (fun x => match x with | .str z => some (.str (oppS z)) | _ => none) rfl (.inl (SqL.of h7c)) (by rw [List.length_map, sizeLine_eq]; omega) (fun x H8 Ψ Θ hx s8 yes no => ?_) (fun H8 D8 s8 nD8 h8 => ?_)
        · obtain ⟨y, hy, rfl⟩ := List.mem_map.mp hx
          have ly := List.all_eq_true.mp (good_litS lo go) y (subz y hy)
          walk_at "go"
          exact ⟨lit_pos ly, lit_short ly, yes _ H8 rfl (same_refl _)⟩
        · have h8' : H8 D8 = some (.lst ((sl.map oppS).map V.str)) := by
            rw [h8, List.filterMap_map, List.map_map]
            congr 1
            congr 1
            rw [← List.filterMap_eq_map]
            rfl
          refine ⟨D8, sl.map oppS, rfl, .inl (SqL.of h8'), by rw [List.length_map]; omega, fun H9 t9 rs s9 nt9 ht9 io => ?_⟩
          refine ⟨(by show 1 ≤ sizeLine; decide), fun D10 nD10 => ?_⟩
          -- the new clause
          have ord : InOrd o.2 o.2 := go.ord
          have subS : sl.Sublist sl := List.Sublist.refl _
          obtain ⟨gr, lr⟩ : Good ns rs ∧ rs.length = sl.length := by
            have sgs : Sgs (sl.map oppS) (sl.map bareS) := by
              have e : ∀ l : List Str, (∀ y ∈ l, litS y = true) → Sgs (l.map oppS) (l.map bareS) := by
                intro l
                induction l with
                | nil => exact fun _ => .nil
                | cons y l ih =>
                  intro h
                  refine .cons ?_ (ih fun z hz => h z (List.mem_cons_of_mem _ hz))
                  have lo1 : lowZ (bareS y) = true := h y List.mem_cons_self
                  by_cases n : negS y = true
                  · exact .inl (if_pos n)
                  · rw [bare_of_pos n]
                    exact .inr (opp_pos n)
              exact e sl fun y hy => List.all_eq_true.mp (good_litS lo go) y (subz y hy)
            have nb : (sl.map bareS).Nodup := nodup_map_on ndz fun x hx y hy e => inj_of_nodup go.one (subz x hx) (subz y hy) e
            have hs : ∀ s ∈ sl.map bareS, s ∈ ns := fun s hs => by
              obtain ⟨y, hy, rfl⟩ := List.mem_map.mp hs
              exact go.names lo (subz y hy)
            have z := good_of sgs nb hs lo io
            rw [List.length_map] at z
            exact z
          have br : breaksB o.2 rs = true := List.all_eq_true.mpr fun y hy => by
            obtain ⟨z, hz, rfl⟩ := List.mem_map.mp ((io.mem y).mp hy)
            rw [opp_opp (List.all_eq_true.mp (good_litS lo go) z (subz z hz))]
            exact decide_eq_true (subz z hz)
          have less := fills_less (rows := qs.map (·.2)) (ns := ns) (os := os) (o := o.2) (r := rs) (et ▸ List.mem_map.mpr ⟨o, ho, rfl⟩) br
          rw [← et, List.length_map] at less
          have s10 := same_new (H := H9) (o := .lst [V.ref t9]) nD10
          have s79 := same_trans (same_trans s8 s9) s10
          have b410 := b47.trans (.of s79)
          have hr10 := b410 _ _ hr4' nrp
          refine ⟨r, D10, _, _, rfl, rfl, hr10, upd_same, by rw [refs, List.length_map, sizeLine_eq]; show _ + 1 ≤ _; omega, fun D11 nD11 => ?_⟩
          have s11 := same_new (o := .lst (refs qs ++ [V.ref t9])) nD11
          have b411 := b410.trans (.of s11)
          have rq11 : RowsAt _ qs := rows_but rq4 b411 hp4
          have ht11 := s11 _ _ (s10 _ _ ht9)
          have all11 : RowsAt (upd (upd H9 D10 (.lst [V.ref t9])) D11 (.lst (refs qs ++ [V.ref t9]))) (qs ++ [(t9, rs)]) := fun x hx => by
            rcases List.mem_append.mp hx with hx | hx
            · exact rq11 x hx
            · rw [List.mem_singleton.mp hx]
              exact ht11
          refine ⟨D11, qs ++ [(t9, rs)], rfl, SqL.of (by rw [upd_same, refs, refs, List.map_append] <;> rfl), all11, by rw [List.length_append, List.length_singleton]; omega, fun H12 r12 s12 nr12 => ?_⟩
          obtain ⟨nr12', qs', hr12, rq12, eq12⟩ := nr12
          have b412 := b411.trans (.of s12)
          have bH12 : But p H H12 := bu4.trans b412
          have nr12H : H r12 = none := by
            cases z : H r12 with
            | none => rfl
            | some o' =>
              have hp11 := s11 _ _ (s79 _ _ hp7)
              by_cases c' : r12 = p
              · rw [c', hp11] at nr12'
                cases nr12'
              · have := (bu4.trans b411) r12 o' z c'
                rw [nr12'] at this
                cases this
          have e12 : (qs ++ [(t9, rs)]).map (·.2) = qs.map (·.2) ++ [rs] := by rw [List.map_append] <;> rfl
          rw [e12] at eq12
          have gd12 : GoodRs ns (qs'.map (·.2)) := fun x hx => by
            rcases List.mem_append.mp (mem_uni.mp (eq12 ▸ hx)) with hx | hx
            · exact gd x hx
            · rw [List.mem_singleton.mp hx]
              exact ⟨gr, by omega, by omega⟩
          have len12 : qs'.length ≤ qs.length + 1 := by
            have h1 := congrArg List.length eq12
            have h2 := uni_len (qs.map (·.2) ++ [rs])
            rw [List.length_map] at h1
            rw [List.length_append, List.length_map, List.length_singleton] at h2
            omega
          refine ⟨_, rfl, _, rfl, r12, q, qs', ns, rfl, SqL.of hr12, rq12, by omega, lits1 gd12, bH12.sqL hN nqp, by omega, nd, lo, fun H13 u13 os' s13 nu13 pr13 => ?_⟩
          obtain ⟨nu13', ts', hu13, rt13, et13⟩ := nu13
          rw [ords_uniq pr13 pr] at et13
          have hp12 : H12 p = some (.lst l6) := s12 _ _ (s11 _ _ (s79 _ _ hp7))
          have lt13 : ts'.length < ts.length := by
            have h1 := congrArg List.length et13
            rw [List.length_map, eq12] at h1
            omega
          refine ⟨ts'.length, lt13, r12, u13, qs', ts', l6, some (.ref c6), rfl, rfl, bH12.trans (.of s13), s13 _ _ hp12, hl6.mono (by omega), nr12H, s13 _ _ hr12, rows_same rq12 s13, eq12 ▸ upnd_uni _, gd12, by omega, hu13, fun z => ?_, rt13, et13⟩
          rw [z, hp12] at nu13'
          cases nu13'
      · intro Q' cont
        by_cases lt : (((refs qs).length : Nat) : Int) < 13
        · rw [decide_eq_true lt]
          refine iteT ?_
          refine ⟨_, rfl, p, 2, _, l5, rfl, hp5, hl5, by omega, by decide, by decide, fun l6 d hl6 d0 d1 => ?_⟩
          refine ⟨_, _, rfl, rfl, ?_⟩
          exact cont _ _ ⟨l6, 2 + d, rfl, by omega, by omega, But.set, upd_same, hl6⟩
        · rw [decide_eq_false lt]
          refine iteF ?_
          exact cont _ _ ⟨l5, 1, rfl, by omega, by omega, But.refl _ _, hp5, hl5.mono (by omega)⟩
end
end My
end

section
set_option Elab.async false
set_option linter.all false
set_option maxRecDepth 100000
set_option maxHeartbeats 4000000
namespace My
local macro_rules | `(tactic| walk_at "go") => `(tactic| (repeat (first
  | (refine ⟨_, rfl, ?_⟩)
  | (refine ⟨_, _, rfl, rfl, ?_⟩)
  | (refine ⟨_, _, rfl, ?_⟩)
  | (refine ⟨rfl, ?_⟩)
  | (refine Or.inl ⟨_, rfl, ?_⟩)
  | (refine ⟨_, _, _, _, rfl, rfl, L2.SqL.of (by first | assumption | exact L2.upd_same), rfl, ?_⟩)
  | (refine ⟨_, _, _, _, rfl, rfl, (by first | assumption | exact L2.upd_same), rfl, ?_⟩)
  | (refine And.intro (by first | omega | decide | (unfold L2.CPow; decide) | (unfold L2.CMul; omega) | (unfold L2.CDiv; omega)) ?_))))
open PySem PySem.Spec PyProof.Rows L2 TL MyF MyS MyW RZ MyR MyT MyQ MyV MyZ
section
variable {P : Program} {w : World} {K : PySem.W.Frag} {mg : Str → Option Value} {base : Heap}
/-! ### _law_turned -/
abbrev sTurned : Stmt := top 62
def spTurned (K : PySem.W.Frag) : Sp := fun vs H Q _ => ∃ (a q : Addr) (ps : List Rs) (fs ns : List Str), vs = [.ref a, .ref q] ∧ SqL K H a (refs ps) ∧ RowsAt H ps ∧ ps.length ≤ 100 ∧ GoodRs ns (ps.map (·.2)) ∧ ns.all lowZ = true ∧ SqL K H q (fs.map V.str) ∧ fs.length < 64 ∧
  ∀ H' r cs, Same H H' → NewRows H H' r (uni cs) → Paired (fun w c => InOrd c (w.map (turnS fs))) (ps.map (·.2)) cs → Q (.ref r) H'
theorem sc_turned : FnScope ["_law_rows_here", "_law_names_here", "_law_clause_here", "_law_literal"] ["_law_rows_here", "_law_names_here"] (defScope sTurned) := ⟨rfl, rfl, rfl, by decide +kernel, rfl, by decide +kernel, by decide +kernel⟩
theorem ok_turned {f : Addr} {fd : FuncData} (G : Fun K "_law_turned" "_law_turned" sTurned f fd) (FR : FN P w K mg base "_law_rows" 1 ["_law_clauses"] (spRows K)) (FC : FN P w K mg base "_law_clause" 1 ["_law_literals"] (spLCl K)) (FB : FN P w K mg base "_law_bare" 1 ["_law_literal"] (spLOne bareS)) (FO : FN P w K mg base "_law_contrary" 1 ["_law_literal"] (spLOne oppS)) :
    FnOk P w K mg base CX0 2 f fd ["_law_rows_here", "_law_names_here"] (spTurned K) := by
  have sc := sc_turned
  obtain ⟨fR, dR, mR, kR', OR, bR⟩ := FR
  obtain ⟨fC, dC, mC, kC, OC, bC⟩ := FC
  obtain ⟨fB, dB, mB, kB, OB, bB⟩ := FB
  obtain ⟨fO, dO, mO, kO, OO, bO⟩ := FO
  refine G.ok sc (fun vs H Q E h => ?_) (fun cdv A outer s H vs Q E hr h => ?_)
  · obtain ⟨_, _, _, _, _, rfl, _⟩ := h
    rfl
  · obtain ⟨a, q, ps, fs, ns, rfl, hS, hrow, few, gd, lo, hN, few2, k⟩ := h
    refine ⟨_, pss_one (ps_ret (pe_call OR hr rfl mR kR' bR .nil pass0 (pa_cons (pe_lc (own := [("_law_clause_here", 2), ("_law_literal", 3)]) (g := gName 2) (tt := tYes) (te := tCall (spLCl K) [] E0 (tCons (tLc (iSq K 2) (gName 3) tYes (tIf (tB (tOp (rIn K false) (tCall (spLOne bareS) [] E0 (tCons (tVar 3) tNil)) (tVar 1))) (tCall (spLOne oppS) [] E0 (tCons (tVar 3) tNil)) (tVar 3)) [3]) tNil)) rfl sc.nd (pi_sq (pv 0))
        (blkOk_by (N := ["_law_rows_here", "_law_names_here", "_law_clause_here", "_law_literal"]) (sc := defScope sTurned) (by decide +kernel)) (fun _ _ _ _ _ => pg_name (i := 2) sc.nd rfl (Or.inl rfl)) (fun _ _ _ _ _ => pts_nil)
        (fun _ _ _ _ _ => pe_call OC hr rfl mC kC bC .nil pass0 (pa_cons (pe_lc (own := [("_law_literal", 3)]) (g := gName 3) (tt := tYes) rfl sc.nd (pi_sq (pv 2)) (blkOk_by (N := ["_law_rows_here", "_law_names_here", "_law_clause_here", "_law_literal"]) (sc := { kind := .function, names := [(".0", .local), ("_law_clause_here", .local), ("_law_clause", .globalImplicit), ("_law_names_here", .cell)], isGenerator := false, isCoroutine := false }) (by decide +kernel)) (fun _ _ _ _ _ => pg_name (i := 3) sc.nd rfl (Or.inl rfl)) (fun _ _ _ _ _ => pts_nil)
          (fun _ _ _ _ _ => pe_ifExp (pt_cmpR op_in_seq (pe_call OB hr rfl mB kB bB .nil pass0 (pa_cons (pv 3) pa_nil)) (pv 1) (by rfl)) (pe_call OO hr rfl mO kO bO .nil pass0 (pa_cons (pv 3) pa_nil)) (pv 3))) pa_nil))) pa_nil))), ?_⟩
    dsimp only [tRet]
    rw [tCall]
    dsimp only [tCons, tNil]
    refine row_seq (te := tCall (spLCl K) [] E0 (tCons (tLc (iSq K 2) (gName 3) tYes (tIf (tB (tOp (rIn K false) (tCall (spLOne bareS) [] E0 (tCons (tVar 3) tNil)) (tVar 1))) (tCall (spLOne oppS) [] E0 (tCons (tVar 3) tNil)) (tVar 3)) [3]) tNil)) (g := gName 2) (fun w c => InOrd c (w.map (turnS fs))) rfl (.inl hS) hrow (by rw [sizeLine_eq]; omega) (fun p H2 Ψ hp s2 yes => ?_) (fun _ _ _ _ _ h q => h _ _ q) (fun H2 D qs s2 nD h2 r2 pr => ?_)
    · obtain ⟨g, _, g6⟩ := gd p.2 (List.mem_map.mpr ⟨p, hp, rfl⟩)
      have lit := good_litS lo g
      refine ⟨rfl, ?_⟩
      dsimp only [tCall, tCons, tNil]
      refine seq_lc (fun x => match x with | .str z => some (.str (turnS fs z)) | _ => none) rfl (.inr (SqT.of (s2 _ _ (hrow p hp)))) (by rw [List.length_map, sizeLine_eq]; omega) (fun x H3 Ψ' Θ hx s3 yes' no => ?_) (fun H3 D3 s3 nD3 h3 => ?_)
      · obtain ⟨y, hy, rfl⟩ := List.mem_map.mp hx
        have ly := List.all_eq_true.mp lit y hy
        walk_at "go"
        refine ⟨lit_pos ly, lit_short ly, ?_⟩
        refine ⟨_, rfl, q, _, rfl, .inl (sqL_same hN (same_trans s2 s3)), rfl, flat_strs fs, ?_⟩
        refine ⟨_, rfl, ?_⟩
        rw [inV_strs]
        by_cases m : bareS y ∈ fs
        · rw [decide_eq_true m]
          exact iteT ⟨_, rfl, y, rfl, lit_pos ly, lit_short ly, yes' _ H3 (by show some (V.str (turnS fs y)) = _; rw [turnS, if_pos m]) (same_refl _)⟩
        · rw [decide_eq_false m]
          exact iteF ⟨_, rfl, yes' _ H3 (by show some (V.str (turnS fs y)) = _; rw [turnS, if_neg m]) (same_refl _)⟩
      · have h3' : H3 D3 = some (.lst ((p.2.map (turnS fs)).map V.str)) := by
          rw [h3, List.filterMap_map, List.map_map]
          congr 1
          congr 1
          rw [← List.filterMap_eq_map]
          rfl
        exact ⟨D3, p.2.map (turnS fs), rfl, .inl (SqL.of h3'), by rw [List.length_map]; omega, fun H4 t rs s4 nt ht io => yes t rs H4 (same_trans s3 s4) ht io⟩
    · have lq : qs.length = ps.length := by
        have := pr.length
        rw [List.length_map, List.length_map] at this
        exact this.symm
      refine ⟨D, qs, rfl, SqL.of h2, r2, by omega, fun H3 r s3 nr => ?_⟩
      obtain ⟨nr', rs, e⟩ := nr
      exact k H3 r (qs.map (·.2)) (same_trans s2 s3) ⟨same_free s2 nr', rs, e⟩ pr
end
end My
end

section
set_option Elab.async false
set_option linter.all false
set_option maxRecDepth 100000
set_option maxHeartbeats 4000000
namespace My
local macro_rules | `(tactic| walk_at "go") => `(tactic| (repeat (first
  | (refine ⟨_, rfl, ?_⟩)
  | (refine ⟨_, _, rfl, rfl, ?_⟩)
  | (refine ⟨_, _, rfl, ?_⟩)
  | (refine ⟨rfl, ?_⟩)
  | (refine Or.inl ⟨_, rfl, ?_⟩)
  | (refine ⟨_, _, _, _, rfl, rfl, L2.SqL.of (by first | assumption | exact L2.upd_same), rfl, ?_⟩)
  | (refine ⟨_, _, _, _, rfl, rfl, (by first | assumption | exact L2.upd_same), rfl, ?_⟩)
  | (refine And.intro (by first | omega | decide | (unfold L2.CPow; decide) | (unfold L2.CMul; omega) | (unfold L2.CDiv; omega)) ?_))))
open PySem PySem.Spec PyProof.Rows L2 TL MyF MyS MyW RZ MyR MyT MyQ MyV MyZ
/-- one sign of each name, in all ways -/
def stepS (rs : List (List Str)) (n : Str) : List (List Str) := rs.map (· ++ [n]) ++ rs.map (· ++ [dash ++ n])
def signsU (ns : List Str) : List (List Str) := ns.foldl stepS [[]]
theorem signsU_snoc (ns : List Str) (n : Str) : signsU (ns ++ [n]) = stepS (signsU ns) n := by
  rw [signsU, List.foldl_append]
  rfl
theorem signsU_len (ns : List Str) : (signsU ns).length = 2 ^ ns.length := by
  refine rev_ind (Pm := fun ns => (signsU ns).length = 2 ^ ns.length) rfl (fun l n ih => ?_) ns
  rw [signsU_snoc, stepS, List.length_append, List.length_map, List.length_map, ih, List.length_append, List.length_singleton, Nat.pow_succ]
  omega
theorem signsU_sgs (ns : List Str) : ∀ w ∈ signsU ns, Sgs w ns := by
  refine rev_ind (Pm := fun ns => ∀ w ∈ signsU ns, Sgs w ns) (fun w h => by rw [List.mem_singleton.mp h]; exact .nil) (fun l n ih w h => ?_) ns
  rw [signsU_snoc] at h
  rcases List.mem_append.mp h with h | h
  · obtain ⟨u, hu, rfl⟩ := List.mem_map.mp h
    exact (ih u hu).snoc (.inl rfl)
  · obtain ⟨u, hu, rfl⟩ := List.mem_map.mp h
    exact (ih u hu).snoc (.inr rfl)
section
variable {P : Program} {w : World} {K : PySem.W.Frag} {mg : Str → Option Value} {base : Heap}
/-! ### _law_signs -/
abbrev sSigns : Stmt := top 60
def spSigns (K : PySem.W.Frag) : Sp := fun vs H Q _ => ∃ (q : Addr) (ns : List Str), vs = [.ref q] ∧ SqL K H q (ns.map V.str) ∧ ns.length ≤ 6 ∧ ns.Nodup ∧ ns.all lowZ = true ∧
  ∀ H' r cs, Same H H' → NewRows H H' r (uni cs) → Paired (fun w c => InOrd c w) (signsU ns) cs → Q (.ref r) H'
theorem sc_signs : FnScope ["_law_names_here", "_law_found", "_law_name", "_law_clause_here"] ["_law_names_here"] (defScope sSigns) := ⟨rfl, rfl, rfl, by decide +kernel, rfl, by decide +kernel, by decide +kernel⟩
theorem ok_signs {f : Addr} {fd : FuncData} (G : Fun K "_law_signs" "_law_signs" sSigns f fd) (B : Pts mg) (FR : FN P w K mg base "_law_rows" 1 ["_law_clauses"] (spRows K)) : FnOk P w K mg base CX0 2 f fd ["_law_names_here"] (spSigns K) := by
  have sc := sc_signs
  obtain ⟨fR, dR, mR, kR', OR, bR⟩ := FR
  refine G.ok sc (fun vs H Q E h => ?_) (fun cdv A outer s H vs Q E hr h => ?_)
  · obtain ⟨_, _, rfl, _⟩ := h
    rfl
  · obtain ⟨q, ns, rfl, hS, h6, nd, lo, k⟩ := h
    have big : (100000 : Nat) < sizeLine := by decide
    refine ⟨_, pss_cons (ps_set (i := 1) sc.nd rfl (Or.inl rfl) (pe_lst (pa_cons (pe_tup pa_nil) pa_nil)))
      (pss_cons (ps_for PassesOwn.never rfl (pi_list (pv 0)) (pg_name (i := 2) sc.nd rfl (Or.inr rfl))
        (pss_one (ps_set (i := 1) sc.nd rfl (Or.inl rfl) (pe_op op_cat
          (pe_lc (own := [("_law_clause_here", 3)]) (g := gName 3) (tt := tYes) (te := tOp (rCatA K) (tVar 3) (tTup (tCons (tVar 2) tNil))) rfl sc.nd (pi_sq (pv 1)) (blkOk_by (N := ["_law_names_here", "_law_found", "_law_name", "_law_clause_here"]) (sc := defScope sSigns) (by decide +kernel)) (fun _ _ _ _ _ => pg_name (i := 3) sc.nd rfl (Or.inl rfl)) (fun _ _ _ _ _ => pts_nil)
            (fun _ _ _ _ _ => pe_op op_catA (pv 3) (pe_tup (pa_cons (pv 2) pa_nil))))
          (pe_lc (own := [("_law_clause_here", 3)]) (g := gName 3) (tt := tYes) (te := tOp (rCatA K) (tVar 3) (tTup (tCons (tOp rAddS (tC (.str dash)) (tVar 2)) tNil))) rfl sc.nd (pi_sq (pv 1)) (blkOk_by (N := ["_law_names_here", "_law_found", "_law_name", "_law_clause_here"]) (sc := defScope sSigns) (by decide +kernel)) (fun _ _ _ _ _ => pg_name (i := 3) sc.nd rfl (Or.inl rfl)) (fun _ _ _ _ _ => pts_nil)
            (fun _ _ _ _ _ => pe_op op_catA (pv 3) (pe_tup (pa_cons (pe_op op_add_str pe_str (pv 2)) pa_nil))))))))
      (pss_one (ps_ret (pe_call OR hr rfl mR kR' bR .nil pass0 (pa_cons
          (pe_lc (own := [("_law_clause_here", 3)]) (g := gName 3) (tt := tYes) (te := tCB (rTupOf K) (tCons (tCB (rSortTS K) (tCons (tVar 3) tNil)) tNil)) rfl sc.nd (pi_sq (pv 1)) (blkOk_by (N := ["_law_names_here", "_law_found", "_law_name", "_law_clause_here"]) (sc := defScope sSigns) (by decide +kernel)) (fun _ _ _ _ _ => pg_name (i := 3) sc.nd rfl (Or.inl rfl)) (fun _ _ _ _ _ => pts_nil)
            (fun _ _ _ _ _ => pe_callTy cr_tupOf (by rfl) B.tuple boot_tuple (pa_cons (pe_callB (cr_sortTS hr.units) (by rfl) B.sorted boot_sorted (pa_cons (pv 3) pa_nil)) pa_nil))) pa_nil))))), ?_⟩
    refine ⟨(by show 0 ≤ sizeLine; omega), fun t0 n0 => ?_⟩
    refine ⟨(by show 1 ≤ sizeLine; omega), fun F nF => ?_⟩
    have s0 := same_trans (same_new (o := .tup []) n0) (same_new (o := .lst [.ref t0]) nF)
    have ht0 := (same_new (o := .lst [.ref t0]) nF) _ _ (upd_same (H := H) (a := t0) (o := .tup []))
    refine ⟨_, rfl, q, rfl, ⟨_, sqL_same hS s0⟩, ?_⟩
    refine for_list (xs := ns.map V.str) (fun i σ Hc => i ≤ ns.length ∧ ∃ (F : Addr) (ps : List Rs) (v : Option V), σ = [some (.ref q), some (.ref F), v, none] ∧ Same H Hc ∧ H F = none ∧ Hc F = some (.lst (refs ps)) ∧ RowsAt Hc ps ∧ ps.map (·.2) = signsU (ns.take i)) ?_ ?_ ?_ ?_
    · refine ⟨Nat.zero_le _, F, [(t0, [])], none, rfl, s0, same_free (same_new n0) nF, upd_same, fun x hx => ?_, rfl⟩
      rw [List.mem_singleton.mp hx]
      exact ht0
    · rintro i σ Hc hi ⟨_, F, ps, v, rfl, sm, _⟩
      exact sqL_same hS sm
    · rintro i x σ Hc hx ⟨hi, F, ps, v, rfl, sm, nF, hF, rw', ep⟩
      have hi2 : i < ns.length := by
        have := (List.getElem?_eq_some_iff.mp hx).1
        rw [List.length_map] at this
        exact this
      rw [List.getElem?_map, List.getElem?_eq_getElem hi2] at hx
      cases hx
      have lown : lowZ ns[i] = true := List.all_eq_true.mp lo _ (List.getElem_mem hi2)
      have ln := low_short lown
      have lp : ps.length ≤ 64 := by
        have h1 := signsU_len (ns.take i)
        rw [← ep, List.length_map, List.length_take, Nat.min_eq_left (Nat.le_of_lt hi2)] at h1
        rw [h1]
        exact Nat.le_trans (Nat.pow_le_pow_right (by decide) (by omega : i ≤ 6)) (by decide)
      have tk : ns.take (i + 1) = ns.take i ++ [ns[i]] := by rw [List.take_add_one, List.getElem?_eq_getElem hi2] <;> rfl
      have len : ∀ p ∈ ps, p.2.length ≤ 6 := fun p hp => by
        have h1 : p.2 ∈ signsU (ns.take i) := ep ▸ List.mem_map.mpr ⟨p, hp, rfl⟩
        have h3 := (signsU_sgs _ _ h1).len
        rw [List.length_take] at h3
        omega
      dsimp only [gName, tAsg, tSeq]
      show tLc (iSq K 1) (gName 3) tYes (tOp (rCatA K) (tVar 3) (tTup (tCons (tVar 2) tNil))) [3] _ Hc _
      refine row_seq (g := gName 3) (te := tOp (rCatA K) (tVar 3) (tTup (tCons (tVar 2) tNil))) (fun w r => r = w ++ [ns[i]]) rfl (.inl (SqL.of hF)) rw' (by omega) (fun p H2 Ψ hp s2 yes => ?_) (fun _ _ _ _ _ h q => h _ _ q) (fun H2 D1 qs1 s2 nD1 h2 r1 pr1 => ?_)
      · walk_at "go"
        refine ⟨(by show 1 ≤ sizeLine; omega), fun b nb => ?_⟩
        have lpp := len p hp
        refine cat_snoc (SqT.of ((same_new nb) _ _ (s2 _ _ (rw' p hp)))) upd_same (by rw [List.length_map]; omega) fun H5 z s5 hz => ?_
        exact yes z (p.2 ++ [ns[i]]) H5 (same_trans (same_new nb) s5) (by rw [hz, List.map_append] <;> rfl) rfl
      · have e1 := prd_map pr1
        have l1 : qs1.length = ps.length := by
          have := congrArg List.length e1
          rw [List.length_map, List.length_map, List.length_map] at this
          exact this
        show tLc (iSq K 1) (gName 3) tYes (tOp (rCatA K) (tVar 3) (tTup (tCons (tOp rAddS (tC (.str dash)) (tVar 2)) tNil))) [3] _ H2 _
        refine row_seq (g := gName 3) (te := tOp (rCatA K) (tVar 3) (tTup (tCons (tOp rAddS (tC (.str dash)) (tVar 2)) tNil))) (fun w r => r = w ++ [dash ++ ns[i]]) rfl (.inl (SqL.of (s2 _ _ hF))) (rows_same rw' s2) (by omega) (fun p H4 Ψ hp s4 yes => ?_) (fun _ _ _ _ _ h q => h _ _ q) (fun H4 D3 qs2 s4 nD3 h4 r2 pr2 => ?_)
        · walk_at "go"
          refine ⟨?_, (by show 1 ≤ sizeLine; omega), fun b nb => ?_⟩
          · show 1 + ns[i].length ≤ sizeLine
            omega
          have lpp := len p hp
          refine cat_snoc (SqT.of ((same_new nb) _ _ (s4 _ _ (s2 _ _ (rw' p hp))))) upd_same (by rw [List.length_map]; omega) fun H5 z s5 hz => ?_
          exact yes z (p.2 ++ [dash ++ ns[i]]) H5 (same_trans (same_new nb) s5) (by rw [hz, List.map_append] <;> rfl) rfl
        · have e2 := prd_map pr2
          have l2 : qs2.length = ps.length := by
            have := congrArg List.length e2
            rw [List.length_map, List.length_map, List.length_map] at this
            exact this
          refine ⟨D1, D3, _, _, rfl, rfl, s4 _ _ h2, h4, by rw [refs, refs, List.length_map, List.length_map]; omega, fun D4 nD4 => ?_⟩
          have s5' := same_new (H := H4) (o := .lst (refs qs1 ++ refs qs2)) nD4
          have s5 := same_trans (same_trans s2 s4) s5'
          refine ⟨hi2, D4, qs1 ++ qs2, _, rfl, same_trans sm s5, same_free sm (same_free (same_trans s2 s4) nD4), ?_, fun x hx => ?_, ?_⟩
          · rw [upd_same]
            show _ = some (HO.lst ((qs1 ++ qs2).map _))
            rw [List.map_append]
            rfl
          · rcases List.mem_append.mp hx with hx | hx
            · exact s5' _ _ (s4 _ _ (r1 x hx))
            · exact s5' _ _ (r2 x hx)
          · rw [tk, signsU_snoc, stepS, List.map_append, e1, e2, ep]
    · rintro σ Hc ⟨_, F, ps, v, rfl, sm, nF, hF, rw', ep⟩
      rw [List.length_map, List.take_length] at ep
      have lp : ps.length ≤ 64 := by
        have h1 := signsU_len ns
        rw [← ep, List.length_map] at h1
        rw [h1]
        exact Nat.le_trans (Nat.pow_le_pow_right (by decide) h6) (by decide)
      dsimp only [tSeq, tAsg, tRet]
      rw [tCall]
      dsimp only [tCons, tNil]
      refine row_seq (g := gName 3) (te := tCB (rTupOf K) (tCons (tCB (rSortTS K) (tCons (tVar 3) tNil)) tNil)) (fun w r => InOrd r w) rfl (.inl (SqL.of hF)) rw' (by omega) (fun p H2 Ψ hp s2 yes => ?_) (fun _ _ _ _ _ h q => h _ _ q) (fun H2 D1 qs1 s2 nD1 h2 r1 pr1 => ?_)
      · walk_at "go"
        have hw : p.2 ∈ signsU ns := ep ▸ List.mem_map.mpr ⟨p, hp, rfl⟩
        have sg := signsU_sgs ns p.2 hw
        have wn : p.2.Nodup := nodup_of_map bareS (by rw [sg.bare fun s hs => List.all_eq_true.mp lo s hs]; exact nd)
        refine ⟨p.1, p.2, rfl, SqT.of (s2 _ _ (rw' p hp)), fun ys z pm so nz => ?_⟩
        refine ⟨z, _, rfl, .inl ⟨SqL.of upd_same, fun l nl => ?_⟩⟩
        exact yes l ys _ (same_trans (same_new nz) (same_new nl)) upd_same ⟨pm.nodup_iff.mpr wn, so, fun y => pm.mem_iff, Nat.le_of_eq pm.length_eq⟩
      · have lq : qs1.length = ps.length := by
          have := pr1.length
          rw [List.length_map, List.length_map] at this
          exact this.symm
        refine ⟨D1, qs1, rfl, SqL.of h2, r1, by omega, fun H3 r s3 nr => ?_⟩
        obtain ⟨nr', rs, e⟩ := nr
        exact k H3 r (qs1.map (·.2)) (same_trans (same_trans sm s2) s3) ⟨same_free (same_trans sm s2) nr', rs, e⟩ (ep ▸ pr1)
end
end My
end

section
set_option Elab.async false
set_option linter.all false
set_option maxRecDepth 100000
set_option maxHeartbeats 4000000
namespace My
local macro_rules | `(tactic| walk_at "go") => `(tactic| (repeat (first
  | (refine ⟨_, rfl, ?_⟩)
  | (refine ⟨_, _, rfl, rfl, ?_⟩)
  | (refine ⟨_, _, rfl, ?_⟩)
  | (refine ⟨rfl, ?_⟩)
  | (refine Or.inl ⟨_, rfl, ?_⟩)
  | (refine ⟨_, _, _, _, rfl, rfl, L2.SqL.of (by first | assumption | exact L2.upd_same), rfl, ?_⟩)
  | (refine ⟨_, _, _, _, rfl, rfl, (by first | assumption | exact L2.upd_same), rfl, ?_⟩)
  | (refine And.intro (by first | omega | decide | (unfold L2.CPow; decide) | (unfold L2.CMul; omega) | (unfold L2.CDiv; omega)) ?_))))
open PySem PySem.Spec PyProof.Rows L2 TL MyF MyS MyW RZ MyR MyT MyQ MyV MyZ
/-- two rows of two texts each name after another, round the ring -/
def step2 (a b : Str) : List (List Str) := [[a, dash ++ b], [dash ++ a, b]]
def links : List Str → List (List Str)
  | a :: b :: r => step2 a b ++ links (b :: r)
  | _ => []
def ringU (ns : List Str) : List (List Str) := [[ns.headD dash, ns.getLastD dash], [dash ++ ns.headD dash, dash ++ ns.getLastD dash]] ++ links ns
def linksZ (ns : List Str) (i : Nat) : List (List Str) := ((ns.zip (ns.drop 1)).take i).flatMap fun p => step2 p.1 p.2
theorem links_zip : ∀ ns : List Str, (ns.zip (ns.drop 1)).flatMap (fun p => step2 p.1 p.2) = links ns
  | [] => rfl
  | [_] => rfl
  | a :: b :: r => by
    show step2 a b ++ ((b :: r).zip r).flatMap _ = _
    rw [show ((b :: r).zip r).flatMap (fun p => step2 p.1 p.2) = links (b :: r) from links_zip (b :: r)]
    rfl
section
variable {P : Program} {w : World} {K : PySem.W.Frag} {mg : Str → Option Value} {base : Heap}
theorem two_cl {ta tb : TE} {x y : Str} {σ : L2.St} {H : Hp} {Q : VK} (hx : ∀ R : VK, R (.str x) H → ta σ H R) (hy : ∀ R : VK, R (.str y) H → tb σ H R)
    (k : ∀ H' t rs, Same H H' → H t = none → H' t = some (.tup (rs.map V.str)) → InOrd rs [x, y] → Q (.ref t) H') : tCall (spLCl K) [] E0 (tCons (tLst (tCons ta (tCons tb tNil))) tNil) σ H Q := by
  rw [tCall]
  dsimp only [tCons, tNil, tLst]
  refine hx _ (hy _ ⟨(by show 2 ≤ sizeLine; rw [sizeLine_eq]; omega), fun p np => ?_⟩)
  refine ⟨p, [x, y], rfl, .inl (SqL.of upd_same), (by show 2 < 64; omega), fun H' t rs s' nt ht io => ?_⟩
  exact k H' t rs (same_trans (same_new np) s') (same_free (same_new np) nt) ht io
theorem two_cls {ta tb tc td : TE} {x y z u : Str} {σ : L2.St} {H : Hp} {Q : VK} (hx : ∀ H2, Same H H2 → ∀ R : VK, R (.str x) H2 → ta σ H2 R) (hy : ∀ H2, Same H H2 → ∀ R : VK, R (.str y) H2 → tb σ H2 R)
    (hz : ∀ H2, Same H H2 → ∀ R : VK, R (.str z) H2 → tc σ H2 R) (hu : ∀ H2, Same H H2 → ∀ R : VK, R (.str u) H2 → td σ H2 R)
    (k : ∀ H' p t t' rs rs', Same H H' → H p = none → H' p = some (.lst [.ref t, .ref t']) → H' t = some (.tup (rs.map V.str)) → H' t' = some (.tup (rs'.map V.str)) → InOrd rs [x, y] → InOrd rs' [z, u] → Q (.ref p) H') :
    tLst (tCons (tCall (spLCl K) [] E0 (tCons (tLst (tCons ta (tCons tb tNil))) tNil)) (tCons (tCall (spLCl K) [] E0 (tCons (tLst (tCons tc (tCons td tNil))) tNil)) tNil)) σ H Q := by
  rw [tLst, tCons]
  refine two_cl (hx H (same_refl H)) (hy H (same_refl H)) fun H1 t rs s1 nt ht io => ?_
  rw [tCons]
  refine two_cl (hz H1 s1) (hu H1 s1) fun H2 t' rs' s2 nt' ht' io' => ?_
  rw [tNil]
  refine ⟨(by show 2 ≤ sizeLine; rw [sizeLine_eq]; omega), fun p np => ?_⟩
  have s3 := same_new (o := .lst [.ref t, .ref t']) np
  exact k _ p t t' rs rs' (same_trans (same_trans s1 s2) s3) (same_free (same_trans s1 s2) np) upd_same (s3 _ _ (s2 _ _ ht)) (s3 _ _ ht') io io'
/-! ### _law_ring -/
abbrev sRing : Stmt := top 61
def spRing (K : PySem.W.Frag) : Sp := fun vs H Q _ => ∃ (q : Addr) (ns : List Str), vs = [.ref q] ∧ SqL K H q (ns.map V.str) ∧ 1 ≤ ns.length ∧ ns.length ≤ 6 ∧ ns.all lowZ = true ∧
  ∀ H' r cs, Same H H' → NewRows H H' r (uni cs) → Paired (fun w c => InOrd c w) (ringU ns) cs → Q (.ref r) H'
theorem sc_ring : FnScope ["_law_names_here", "_law_found", "_law_one", "_law_other"] ["_law_names_here"] (defScope sRing) := ⟨rfl, rfl, rfl, by decide +kernel, rfl, by decide +kernel, by decide +kernel⟩
theorem ok_ring {f : Addr} {fd : FuncData} (G : Fun K "_law_ring" "_law_ring" sRing f fd) (mz : mg "zip" = none) (FR : FN P w K mg base "_law_rows" 1 ["_law_clauses"] (spRows K)) (FC : FN P w K mg base "_law_clause" 1 ["_law_literals"] (spLCl K)) : FnOk P w K mg base CX0 2 f fd ["_law_names_here"] (spRing K) := by
  have sc := sc_ring
  obtain ⟨fR, dR, mR, kR', OR, bR⟩ := FR
  obtain ⟨fC, dC, mC, kC, OC, bC⟩ := FC
  refine G.ok sc (fun vs H Q E h => ?_) (fun cdv A outer s H vs Q E hr h => ?_)
  · obtain ⟨_, _, rfl, _⟩ := h
    rfl
  · obtain ⟨q, ns, rfl, hS, n1, n6, lo, k⟩ := h
    have big : (100000 : Nat) < sizeLine := by decide
    refine ⟨_, pss_cons (ps_set (i := 1) sc.nd rfl (Or.inl rfl) (pe_lst
        (pa_cons (pe_call OC hr rfl mC kC bC .nil pass0 (pa_cons (pe_lst (pa_cons (pe_ix ix_list (pv 0) pe_int (fun _ _ => rfl)) (pa_cons (pe_ix ix_list (pv 0) (pe_un un_neg pe_int) (fun _ _ => rfl)) pa_nil))) pa_nil))
        (pa_cons (pe_call OC hr rfl mC kC bC .nil pass0 (pa_cons (pe_lst (pa_cons (pe_op op_add_str pe_str (pe_ix ix_list (pv 0) pe_int (fun _ _ => rfl))) (pa_cons (pe_op op_add_str pe_str (pe_ix ix_list (pv 0) (pe_un un_neg pe_int) (fun _ _ => rfl))) pa_nil))) pa_nil)) pa_nil))))
      (pss_cons (ps_for PassesOwn.never rfl (pi_zip (by rfl) mz (pa_cons (pv 0) (pa_cons (pe_slice sl_list (pv 0) (po_some pe_int) po_none) pa_nil)))
          (pg_tup rfl (pgs_cons (pg_name (i := 2) sc.nd rfl (.inl rfl)) (pgs_cons (pg_name (i := 3) sc.nd rfl (.inl rfl)) pgs_nil)))
        (pss_one (ps_set (i := 1) sc.nd rfl (Or.inl rfl) (pe_op op_cat (pv 1) (pe_lst
          (pa_cons (pe_call OC hr rfl mC kC bC .nil pass0 (pa_cons (pe_lst (pa_cons (pv 2) (pa_cons (pe_op op_add_str pe_str (pv 3)) pa_nil))) pa_nil))
          (pa_cons (pe_call OC hr rfl mC kC bC .nil pass0 (pa_cons (pe_lst (pa_cons (pe_op op_add_str pe_str (pv 2)) (pa_cons (pv 3) pa_nil))) pa_nil)) pa_nil)))))))
      (pss_one (ps_ret (pe_call OR hr rfl mR kR' bR .nil pass0 (pa_cons (pv 1) pa_nil))))), ?_⟩
    have g0 : ∃ a, ns[0]? = some a ∧ a = ns.headD dash ∧ lowZ a = true := by
      cases ns with
      | nil => simp at n1
      | cons a r => exact ⟨a, rfl, rfl, List.all_eq_true.mp lo a List.mem_cons_self⟩
    have g9 : ∃ b, ns[ns.length - 1]? = some b ∧ b = ns.getLastD dash ∧ lowZ b = true := by
      have h : ns.length - 1 < ns.length := by omega
      refine ⟨ns[ns.length - 1], List.getElem?_eq_getElem h, ?_, List.all_eq_true.mp lo _ (List.getElem_mem h)⟩
      have e : ns.getLast? = some ns[ns.length - 1] := by rw [List.getLast?_eq_getElem?, List.getElem?_eq_getElem h]
      rw [List.getLastD_eq_getLast?, e]
      rfl
    obtain ⟨a, ga, ea, la⟩ := g0
    obtain ⟨b, gb, eb, lb⟩ := g9
    have sa := low_short la
    have sb := low_short lb
    have at0 : atI (ns.map V.str) 0 = some (.str a) := atI_nat (j := 0) (by rw [List.getElem?_map, ga] <;> rfl)
    have at9 : atI (ns.map V.str) (-1) = some (.str b) := by
      have e : ns = ns.dropLast ++ [b] := by
        have h := List.dropLast_concat_getLast (l := ns) (by rintro rfl; simp at n1)
        have e : ns.getLast? = some b := by rw [List.getLast?_eq_getElem?]; exact gb
        rw [List.getLast?_eq_some_getLast (by rintro rfl; simp at n1)] at e
        rw [← Option.some.inj e]
        exact h.symm
      rw [e, List.map_append]
      exact atI_last _ _
    have ix0 : ∀ H2, Same H H2 → ∀ R : VK, R (.str a) H2 → ∃ p xs i v, V.ref q = .ref p ∧ V.int 0 = .int i ∧ SqL K H2 p xs ∧ atI xs i = some v ∧ R v H2 := fun H2 s2 R r => ⟨q, _, 0, .str a, rfl, rfl, sqL_same hS s2, at0, r⟩
    have ix9 : ∀ H2, Same H H2 → ∀ R : VK, R (.str b) H2 → ∃ p xs i v, V.ref q = .ref p ∧ V.int (-1) = .int i ∧ SqL K H2 p xs ∧ atI xs i = some v ∧ R v H2 := fun H2 s2 R r => ⟨q, _, -1, .str b, rfl, rfl, sqL_same hS s2, at9, r⟩
    dsimp only [tSeq, tAsg]
    refine two_cls (x := a) (y := b) (z := dash ++ a) (u := dash ++ b) (fun H2 s2 R r => ⟨.ref q, rfl, ix0 H2 s2 R r⟩) (fun H2 s2 R r => ⟨.ref q, rfl, 1, rfl, ix9 H2 s2 R r⟩)
      (fun H2 s2 R r => ⟨.ref q, rfl, q, _, 0, .str a, rfl, rfl, sqL_same hS s2, at0, dash, a, rfl, rfl, (by show 1 + a.length ≤ sizeLine; omega), r⟩) (fun H2 s2 R r => ⟨.ref q, rfl, 1, rfl, q, _, -1, .str b, rfl, rfl, sqL_same hS s2, at9, dash, b, rfl, rfl, (by show 1 + b.length ≤ sizeLine; omega), r⟩) (fun H0 F0 t0 t0' r0 r0' s0 nF0 hF0 ht0 ht0' io0 io0' => ?_)
    have hF1 : H0 F0 = some (.lst (refs [(t0, r0), (t0', r0')])) := hF0
    refine ⟨.ref q, rfl, .ref q, rfl, 1, rfl, q, _, rfl, sqL_same hS s0, fun c nc => ?_⟩
    have s1 := same_new (o := .lst (cutV (ns.map V.str) (some 1) none)) nc
    refine ⟨q, c, ns.map V.str, _, rfl, sqL_same hS (same_trans s0 s1), SqL.of upd_same, ?_⟩
    have h2 := same_trans s0 s1
    refine ⟨fun i m σ H3 => ∃ (F : Addr) (ps : List Rs) (cs : List (List Str)) (y2 y3 : Option V), σ = [some (.ref q), some (.ref F), y2, y3] ∧ i + m = ns.length - 1 ∧ i ≤ ns.length - 1 ∧ Same H H3 ∧ H F = none ∧ F ≠ c ∧ H3 c = some (.lst ((ns.drop 1).map V.str)) ∧ H3 F = some (.lst (refs ps)) ∧ RowsAt H3 ps ∧ ps.map (·.2) = cs ∧
      ps.length = 2 + 2 * i ∧ Paired (fun w c => InOrd c w) ([[a, b], [dash ++ a, dash ++ b]] ++ linksZ ns i) cs, ⟨ns.length - 1, F0, [(t0, r0), (t0', r0')], _, none, none, rfl, by omega, by omega, h2, nF0, ?_, ?_, ?_, ?_, rfl, rfl, ?_⟩, fun i m σ H3 hW => ?_⟩
    · rintro rfl
      rw [hF0] at nc
      cases nc
    · rw [upd_same, cut1]
    · exact s1 _ _ hF1
    · refine rows_same (fun x hx => ?_) s1
      rcases List.mem_cons.mp hx with rfl | hx
      · exact ht0
      · rw [List.mem_singleton.mp hx]
        exact ht0'
    · exact .cons io0 (.cons io0' .nil)
    · obtain ⟨F, ps, cs, y2, y3, rfl, em, il, sm, nF, nFc, ec, eF, rw', ep, lp, pr⟩ := hW
      have hA : SqL K H3 q (ns.map V.str) := sqL_same hS sm
      have hC : SqL K H3 c ((ns.drop 1).map V.str) := SqL.of ec
      by_cases hi : i < ns.length - 1
      · have i1 : i < ns.length := by omega
        have i2 : i + 1 < ns.length := by omega
        have e2 : (ns.drop 1)[i]? = some ns[i + 1] := by rw [List.getElem?_drop, Nat.add_comm 1 i, List.getElem?_eq_getElem i2]
        have g1 : (ns.map V.str)[i]? = some (.str ns[i]) := by rw [List.getElem?_map, List.getElem?_eq_getElem i1] <;> rfl
        have g2 : ((ns.drop 1).map V.str)[i]? = some (.str ns[i + 1]) := by rw [List.getElem?_map, e2] <;> rfl
        have l1 := low_short (List.all_eq_true.mp lo _ (List.getElem_mem i1))
        have l2 := low_short (List.all_eq_true.mp lo _ (List.getElem_mem i2))
        have tk : linksZ ns (i + 1) = linksZ ns i ++ step2 ns[i] ns[i + 1] := by
          have ez : (ns.zip (ns.drop 1))[i]? = some (ns[i], ns[i + 1]) := List.getElem?_zip_eq_some.mpr ⟨List.getElem?_eq_getElem i1, e2⟩
          rw [linksZ, List.take_add_one, ez, List.flatMap_append]
          show _ ++ (step2 ns[i] ns[i + 1] ++ []) = _
          rw [List.append_nil]
          rfl
        refine .inr ⟨⟨_, _, _, _, hA, hC, g1, g2⟩, fun σ' H' => ∃ (F : Addr) (ps : List Rs) (cs : List (List Str)) (y2 y3 : Option V), σ' = [some (.ref q), some (.ref F), y2, y3] ∧ Same H H' ∧ H F = none ∧ F ≠ c ∧ H' c = some (.lst ((ns.drop 1).map V.str)) ∧ H' F = some (.lst (refs ps)) ∧ RowsAt H' ps ∧ ps.map (·.2) = cs ∧
          ps.length = 2 + 2 * (i + 1) ∧ Paired (fun w c => InOrd c w) ([[a, b], [dash ++ a, dash ++ b]] ++ linksZ ns (i + 1)) cs, fun σ' H' hN => ?_, fun x H' hy => ?_⟩
        · obtain ⟨F, ps, cs, y2, y3, e, sm, nF, nFc, ec, eF, rw', ep, lp, pr⟩ := hN
          exact ⟨m - 1, by omega, F, ps, cs, y2, y3, e, by omega, by omega, sm, nF, nFc, ec, eF, rw', ep, lp, pr⟩
        · obtain ⟨T, x1, x2, rfl, nT, rfl, f1, f2⟩ := hy
          have ex1 : x1 = .str ns[i] := Option.some.inj ((f1 _ hA).symm.trans g1)
          have ex2 : x2 = .str ns[i + 1] := Option.some.inj ((f2 _ hC).symm.trans g2)
          subst ex1 ex2
          have sT := same_new (o := .tup [.str ns[i], .str ns[i + 1]]) nT
          refine ⟨T, _, rfl, SqT.of upd_same, rfl, _, _, rfl, _, [], rfl, rfl, ?_⟩
          dsimp only [tAsg]
          refine ⟨.ref F, rfl, ?_⟩
          refine two_cls (x := ns[i]) (y := dash ++ ns[i + 1]) (z := dash ++ ns[i]) (u := ns[i + 1]) (fun H2 s2 R r => ⟨_, rfl, r⟩) (fun H2 s2 R r => ⟨_, rfl, dash, _, rfl, rfl, (by show 1 + ns[i + 1].length ≤ sizeLine; omega), r⟩)
            (fun H2 s2 R r => ⟨_, rfl, dash, _, rfl, rfl, (by show 1 + ns[i].length ≤ sizeLine; omega), r⟩) (fun H2 s2 R r => ⟨_, rfl, r⟩) (fun H5 L t t' r r' s5 nL hL ht ht' io io' => ?_)
          have sN := same_trans sT s5
          refine ⟨F, L, _, _, rfl, rfl, sN _ _ eF, hL, ?_, fun Z nZ => ?_⟩
          · rw [refs, List.length_map, lp]
            show 2 + 2 * i + 2 ≤ sizeLine
            omega
          have sZ := same_new (o := .lst (refs ps ++ [.ref t, .ref t'])) nZ
          have sA := same_trans sN sZ
          refine ⟨Z, ps ++ [(t, r), (t', r')], cs ++ [r] ++ [r'], _, _, rfl, same_trans sm sA, same_free (same_trans sm sN) nZ, ?_, sA _ _ ec, ?_, fun x hx => ?_, ?_, ?_, ?_⟩
          · rintro rfl
            rw [sN _ _ ec] at nZ
            cases nZ
          · rw [upd_same, refs, refs, List.map_append]
            rfl
          · rcases List.mem_append.mp hx with hx | hx
            · exact sA _ _ (rw' x hx)
            rcases List.mem_cons.mp hx with rfl | hx
            · exact sZ _ _ ht
            · rw [List.mem_singleton.mp hx]
              exact sZ _ _ ht'
          · rw [List.map_append, ep, List.append_assoc]
            rfl
          · rw [List.length_append, lp]
            show _ + 2 = _
            omega
          · rw [tk, ← List.append_assoc]
            have := paired_snoc (paired_snoc pr io) io'
            rw [List.append_assoc] at this
            exact this
      · refine .inl ⟨⟨_, _, hA, hC, .inr ?_⟩, ?_⟩
        · rw [List.length_map, List.length_drop]
          omega
        · have full : linksZ ns i = links ns := by
            rw [linksZ, List.take_of_length_le (by rw [List.length_zip, List.length_drop]; omega), links_zip]
          rw [full, ea, eb] at pr
          dsimp only [tRet]
          rw [tCall]
          dsimp only [tCons, tNil]
          refine ⟨.ref F, rfl, F, ps, rfl, SqL.of eF, rw', by omega, fun H4 r s4 nr => ?_⟩
          obtain ⟨nr', rs, e⟩ := nr
          exact k H4 r cs (same_trans sm s4) (ep ▸ ⟨same_free sm nr', rs, e⟩) pr
end
end My
end

section
set_option Elab.async false
set_option linter.all false
set_option maxRecDepth 100000
set_option maxHeartbeats 4000000
namespace My
local macro_rules | `(tactic| walk_at "go") => `(tactic| (repeat (first
  | (refine ⟨_, rfl, ?_⟩)
  | (refine ⟨_, _, rfl, rfl, ?_⟩)
  | (refine ⟨_, _, rfl, ?_⟩)
  | (refine ⟨rfl, ?_⟩)
  | (refine Or.inl ⟨_, rfl, ?_⟩)
  | (refine ⟨_, _, _, _, rfl, rfl, L2.SqL.of (by first | assumption | exact L2.upd_same), rfl, ?_⟩)
  | (refine ⟨_, _, _, _, rfl, rfl, (by first | assumption | exact L2.upd_same), rfl, ?_⟩)
  | (refine And.intro (by first | omega | decide | (unfold L2.CPow; decide) | (unfold L2.CMul; omega) | (unfold L2.CDiv; omega)) ?_))))
open PySem PySem.Spec PyProof.Rows L2 TL MyF MyS MyW RZ MyR MyT MyQ MyV MyZ
/-! ### the mathematics of rows that can't be filled -/
/-- what the text y says under v -/
def tellS (v : Str → Bool) (y : Str) : Bool := if negS y = true then !v (bareS y) else v y
/-- each setting of the names makes all texts of some row false -/
def Unfit (rs : List (List Str)) : Prop := ∀ v : Str → Bool, ∃ r ∈ rs, ∀ y ∈ r, tellS v y = false
theorem tell_low {v : Str → Bool} {n : Str} (l : lowZ n = true) : tellS v n = v n := by
  rw [tellS, if_neg (low_neg l)]
theorem tell_dash {v : Str → Bool} (n : Str) : tellS v (dash ++ n) = !v n := by
  rw [tellS, if_pos (neg_dash n), bare_dash]
theorem unfit_sub {rs qs : List (List Str)} (h : Unfit rs) (s : ∀ r ∈ rs, r ∈ qs) : Unfit qs := fun v => by
  obtain ⟨r, hr, b⟩ := h v
  exact ⟨r, s r hr, b⟩
theorem unfit_uni {rs : List (List Str)} (h : Unfit rs) : Unfit (uni rs) := unfit_sub h fun _ hr => mem_uni.mpr hr
theorem paired_get {α β : Type} {F : α → β → Prop} : ∀ {as : List α} {bs : List β}, Paired F as bs → ∀ a ∈ as, ∃ b ∈ bs, F a b
  | _, _, .nil, _, h => absurd h List.not_mem_nil
  | _, _, .cons r t, a, h => by
    rcases List.mem_cons.mp h with rfl | h
    · exact ⟨_, List.mem_cons_self, r⟩
    · obtain ⟨b, hb, f⟩ := paired_get t a h
      exact ⟨b, List.mem_cons_of_mem _ hb, f⟩
theorem unfit_ord {rs cs : List (List Str)} (h : Unfit rs) (p : Paired (fun w c => InOrd c w) rs cs) : Unfit cs := fun v => by
  obtain ⟨r, hr, b⟩ := h v
  obtain ⟨c, hc, io⟩ := paired_get p r hr
  exact ⟨c, hc, fun y hy => b y ((io.mem y).mp hy)⟩
theorem tell_turn {fs : List Str} {v : Str → Bool} {y : Str} (l : litS y = true) : tellS v (turnS fs y) = tellS (fun n => if n ∈ fs then !v n else v n) y := by
  unfold turnS
  by_cases ng : negS y = true
  · have ey : dash ++ bareS y = y := dash_bare ng
    by_cases m : bareS y ∈ fs
    · rw [if_pos m, opp_neg ng, tell_low l, tellS, if_pos ng, if_pos m, Bool.not_not]
    · rw [if_neg m, tellS, tellS, if_pos ng, if_pos ng, if_neg m]
  · have eb : bareS y = y := bare_of_pos (by simpa using ng)
    by_cases m : bareS y ∈ fs
    · rw [if_pos m, opp_pos ng, tell_dash, tellS, if_neg ng, if_pos (eb ▸ m)]
    · rw [if_neg m, tellS, tellS, if_neg ng, if_neg ng, if_neg (fun h => m (eb.symm ▸ h))]
theorem unfit_turn {fs : List Str} {rs cs : List (List Str)} (h : Unfit rs) (l : ∀ r ∈ rs, r.all litS = true) (p : Paired (fun w c => InOrd c (w.map (turnS fs))) rs cs) : Unfit cs := fun v => by
  obtain ⟨r, hr, b⟩ := h fun n => if n ∈ fs then !v n else v n
  obtain ⟨c, hc, io⟩ := paired_get p r hr
  refine ⟨c, hc, fun y hy => ?_⟩
  obtain ⟨z, hz, rfl⟩ := List.mem_map.mp ((io.mem y).mp hy)
  rw [tell_turn (List.all_eq_true.mp (l r hr) z hz)]
  exact b z hz
/-- all signs of the names are among the rows -/
theorem signs_has {v : Str → Bool} (ns : List Str) : (ns.map fun n => if v n = true then dash ++ n else n) ∈ signsU ns := by
  refine rev_ind (Pm := fun ns => (ns.map fun n => if v n = true then dash ++ n else n) ∈ signsU ns) (List.mem_singleton.mpr rfl) (fun l n ih => ?_) ns
  rw [signsU_snoc, List.map_append, stepS]
  by_cases h : v n = true
  · refine List.mem_append_right _ (List.mem_map.mpr ⟨_, ih, ?_⟩)
    show _ = _ ++ [if v n = true then dash ++ n else n]
    rw [if_pos h]
  · refine List.mem_append_left _ (List.mem_map.mpr ⟨_, ih, ?_⟩)
    show _ = _ ++ [if v n = true then dash ++ n else n]
    rw [if_neg h]
theorem unfit_signs {ns : List Str} (lo : ns.all lowZ = true) : Unfit (signsU ns) := fun v => by
  refine ⟨_, signs_has (v := v) ns, fun y hy => ?_⟩
  obtain ⟨n, hn, rfl⟩ := List.mem_map.mp hy
  by_cases h : v n = true
  · rw [if_pos h, tell_dash, h]
    rfl
  · rw [if_neg h, tell_low (List.all_eq_true.mp lo n hn)]
    simpa using h
theorem links_go {v : Str → Bool} : ∀ (ns : List Str) (a : Str), (∀ n ∈ a :: ns, lowZ n = true) → (∃ r ∈ links (a :: ns), ∀ y ∈ r, tellS v y = false) ∨ v a = v ((a :: ns).getLastD dash)
  | [], _, _ => .inr rfl
  | b :: ns, a, lo => by
    have la := lo a List.mem_cons_self
    have lb := lo b (List.mem_cons_of_mem _ List.mem_cons_self)
    rcases links_go ns b (fun n hn => lo n (List.mem_cons_of_mem _ hn)) with ⟨r, hr, h⟩ | h
    · exact .inl ⟨r, List.mem_append_right _ hr, h⟩
    · have e : (a :: b :: ns).getLastD dash = (b :: ns).getLastD dash := rfl
      rw [e, ← h]
      cases ea : v a <;> cases eb : v b
      · exact .inr rfl
      · refine .inl ⟨[a, dash ++ b], List.mem_append_left _ List.mem_cons_self, fun y hy => ?_⟩
        rcases List.mem_cons.mp hy with rfl | hy
        · rw [tell_low la, ea]
        · rw [List.mem_singleton.mp hy, tell_dash, eb]
          rfl
      · refine .inl ⟨[dash ++ a, b], List.mem_append_left _ (List.mem_cons_of_mem _ List.mem_cons_self), fun y hy => ?_⟩
        rcases List.mem_cons.mp hy with rfl | hy
        · rw [tell_dash, ea]
          rfl
        · rw [List.mem_singleton.mp hy, tell_low lb, eb]
      · exact .inr rfl
theorem unfit_ring {ns : List Str} (lo : ns.all lowZ = true) (n1 : 1 ≤ ns.length) : Unfit (ringU ns) := fun v => by
  cases ns with
  | nil => simp at n1
  | cons a ns =>
    have lo' := fun n (hn : n ∈ a :: ns) => List.all_eq_true.mp lo n hn
    rcases links_go (v := v) ns a lo' with ⟨r, hr, h⟩ | h
    · exact ⟨r, List.mem_append_right _ hr, h⟩
    · have ll : lowZ ((a :: ns).getLastD dash) = true := by
        have : (a :: ns).getLastD dash ∈ a :: ns := by
          rw [List.getLastD_eq_getLast?, List.getLast?_eq_some_getLast (List.cons_ne_nil a ns)]
          exact List.getLast_mem _
        exact lo' _ this
      cases ea : v a
      · refine ⟨[a, (a :: ns).getLastD dash], List.mem_append_left _ List.mem_cons_self, fun y hy => ?_⟩
        rcases List.mem_cons.mp hy with rfl | hy
        · rw [tell_low (lo' _ List.mem_cons_self), ea]
        · rw [List.mem_singleton.mp hy, tell_low ll, ← h, ea]
      · refine ⟨[dash ++ a, dash ++ (a :: ns).getLastD dash], List.mem_append_left _ (List.mem_cons_of_mem _ List.mem_cons_self), fun y hy => ?_⟩
        rcases List.mem_cons.mp hy with rfl | hy
        · rw [tell_dash, ea]
          rfl
        · rw [List.mem_singleton.mp hy, tell_dash, ← h, ea]
          rfl
/-- a row of texts in order is there for each list of texts, none twice -/
theorem ord_there {w : List Str} (n : w.Nodup) : ∃ o, InOrd o w :=
  ⟨w.mergeSort leS, (List.mergeSort_perm w leS).nodup_iff.mpr n, sortedS_of (List.pairwise_mergeSort leS_tot.trans (fun a b => Bool.or_eq_true_iff.mpr (leS_tot.total a b)) w), fun _ => (List.mergeSort_perm w leS).mem_iff, Nat.le_of_eq (List.mergeSort_perm w leS).length_eq⟩
theorem ords_there : ∀ {ws : List (List Str)}, (∀ w ∈ ws, w.Nodup) → ∃ os, Paired (fun w o => InOrd o w) ws os
  | [], _ => ⟨[], .nil⟩
  | w :: ws, h => by
    obtain ⟨o, io⟩ := ord_there (h w List.mem_cons_self)
    obtain ⟨os, pr⟩ := ords_there (ws := ws) fun u hu => h u (List.mem_cons_of_mem _ hu)
    exact ⟨o :: os, .cons io pr⟩
theorem parts_has {v : Str → Bool} (ns : List Str) : (ns.map fun n => if v n = true then n else dash ++ n) ∈ partsU ns := by
  refine rev_ind (Pm := fun ns => (ns.map fun n => if v n = true then n else dash ++ n) ∈ partsU ns) (List.mem_singleton.mpr rfl) (fun l n ih => ?_) ns
  rw [partsU_snoc, List.map_append, stepP]
  by_cases h : v n = true
  · refine List.mem_append_left _ (List.mem_append_right _ (List.mem_map.mpr ⟨_, ih, ?_⟩))
    show _ = _ ++ [if v n = true then n else dash ++ n]
    rw [if_pos h]
  · refine List.mem_append_right _ (List.mem_map.mpr ⟨_, ih, ?_⟩)
    show _ = _ ++ [if v n = true then n else dash ++ n]
    rw [if_neg h]
theorem unfit_nofill {rows : List (List Str)} {ns : List Str} (nd : ns.Nodup) (lo : ns.all lowZ = true) (lit : ∀ r ∈ rows, r.all litS = true) (h : NoFill rows ns) : Unfit rows := fun v => by
  obtain ⟨os, pr⟩ := ords_there (ws := partsU ns) fun w hw => (partsU_nd nd lo w hw).1
  have e := h os pr
  obtain ⟨o, ho, io⟩ := paired_get pr _ (parts_has (v := v) ns)
  have lo' : o.length = ns.length := by rw [ord_len io (partsU_nd nd lo _ (parts_has ns)).1, List.length_map]
  have nf : fits rows o = false := by
    cases hf : fits rows o with
    | false => rfl
    | true =>
      have : o ∈ fillsOf rows ns os := List.mem_filter.mpr ⟨List.mem_filter.mpr ⟨mem_asc.mpr ho, decide_eq_true lo'⟩, hf⟩
      rw [e] at this
      cases this
  rw [fits, List.all_eq_false] at nf
  obtain ⟨r, hr, hb⟩ := nf
  have hb' : breaksB o r = true := by simpa using hb
  refine ⟨r, hr, fun y hy => ?_⟩
  have ly := List.all_eq_true.mp (lit r hr) y hy
  have ho := of_decide_eq_true (List.all_eq_true.mp hb' y hy)
  obtain ⟨n, hn, en⟩ := List.mem_map.mp ((io.mem _).mp ho)
  have ln := List.all_eq_true.mp lo n hn
  have ey : y = oppS (if v n = true then n else dash ++ n) := by rw [en, opp_opp ly]
  by_cases t : v n = true
  · rw [if_pos t, opp_pos (low_neg ln)] at ey
    rw [ey, tell_dash, t]
    rfl
  · rw [if_neg t, opp_neg (neg_dash n), bare_dash] at ey
    rw [ey, tell_low ln]
    simpa using t
end My
end

section
set_option Elab.async false
set_option linter.all false
set_option maxRecDepth 100000
set_option maxHeartbeats 4000000
namespace My
local macro_rules | `(tactic| walk_at "go") => `(tactic| (repeat (first
  | (refine ⟨_, rfl, ?_⟩)
  | (refine ⟨_, _, rfl, rfl, ?_⟩)
  | (refine ⟨_, _, rfl, ?_⟩)
  | (refine ⟨rfl, ?_⟩)
  | (refine Or.inl ⟨_, rfl, ?_⟩)
  | (refine ⟨_, _, _, _, rfl, rfl, L2.SqL.of (by first | assumption | exact L2.upd_same), rfl, ?_⟩)
  | (refine ⟨_, _, _, _, rfl, rfl, (by first | assumption | exact L2.upd_same), rfl, ?_⟩)
  | (refine And.intro (by first | omega | decide | (unfold L2.CPow; decide) | (unfold L2.CMul; omega) | (unfold L2.CDiv; omega)) ?_))))
open PySem PySem.Spec PyProof.Rows L2 TL MyF MyS MyW RZ MyR MyT MyQ MyV MyZ
theorem paired_back {α β : Type} {F : α → β → Prop} : ∀ {as : List α} {bs : List β}, Paired F as bs → ∀ b ∈ bs, ∃ a ∈ as, F a b
  | _, _, .nil, _, h => absurd h List.not_mem_nil
  | _, _, .cons r t, b, h => by
    rcases List.mem_cons.mp h with rfl | h
    · exact ⟨_, List.mem_cons_self, r⟩
    · obtain ⟨a, ha, f⟩ := paired_back t b h
      exact ⟨a, List.mem_cons_of_mem _ ha, f⟩
theorem links_two : ∀ {ns : List Str}, ns.Nodup → ∀ w ∈ links ns, ∃ a b, Sgs w [a, b] ∧ a ≠ b ∧ a ∈ ns ∧ b ∈ ns
  | [], _, _, h => absurd h List.not_mem_nil
  | [_], _, _, h => absurd h List.not_mem_nil
  | a :: b :: r, nd, w, h => by
    obtain ⟨n1, n2⟩ := List.nodup_cons.mp nd
    have ab : a ≠ b := fun e => n1 (e ▸ List.mem_cons_self)
    have hb : b ∈ a :: b :: r := List.mem_cons_of_mem _ List.mem_cons_self
    rcases List.mem_append.mp h with h | h
    · rcases List.mem_cons.mp h with rfl | h
      · exact ⟨a, b, .cons (.inl rfl) (.cons (.inr rfl) .nil), ab, List.mem_cons_self, hb⟩
      · rw [List.mem_singleton.mp h]
        exact ⟨a, b, .cons (.inr rfl) (.cons (.inl rfl) .nil), ab, List.mem_cons_self, hb⟩
    · obtain ⟨x, y, sg, ne, hx, hy⟩ := links_two n2 w h
      exact ⟨x, y, sg, ne, List.mem_cons_of_mem _ hx, List.mem_cons_of_mem _ hy⟩
theorem ring_two {ns : List Str} (nd : ns.Nodup) (n2 : 2 ≤ ns.length) : ∀ w ∈ ringU ns, ∃ a b, Sgs w [a, b] ∧ a ≠ b ∧ a ∈ ns ∧ b ∈ ns := fun w h => by
  rcases List.mem_append.mp h with h | h
  · cases ns with
    | nil => simp at n2
    | cons a r =>
      cases r with
      | nil => simp at n2
      | cons b r =>
        obtain ⟨n1, _⟩ := List.nodup_cons.mp nd
        have hl : (a :: b :: r).getLastD dash ∈ b :: r := by
          rw [show (a :: b :: r).getLastD dash = (b :: r).getLastD dash from rfl, List.getLastD_eq_getLast?, List.getLast?_eq_some_getLast (List.cons_ne_nil b r)]
          exact List.getLast_mem _
        have ne : a ≠ (a :: b :: r).getLastD dash := fun e => n1 (e ▸ hl)
        rcases List.mem_cons.mp h with rfl | h
        · exact ⟨a, _, .cons (.inl rfl) (.cons (.inl rfl) .nil), ne, List.mem_cons_self, List.mem_cons_of_mem _ hl⟩
        · rw [List.mem_singleton.mp h]
          exact ⟨a, _, .cons (.inr rfl) (.cons (.inr rfl) .nil), ne, List.mem_cons_self, List.mem_cons_of_mem _ hl⟩
  · exact links_two nd w h
theorem links_len : ∀ (a : Str) (ns : List Str), (links (a :: ns)).length = 2 * ns.length
  | _, [] => rfl
  | a, b :: r => by
    show (step2 a b ++ links (b :: r)).length = _
    rw [List.length_append, links_len b r, List.length_cons]
    show 2 + _ = _
    omega
theorem ring_len {ns : List Str} (n1 : 1 ≤ ns.length) : (ringU ns).length = 2 * ns.length := by
  cases ns with
  | nil => simp at n1
  | cons a r =>
    rw [ringU, List.length_append, links_len]
    show 2 + 2 * r.length = 2 * (r.length + 1)
    omega
section
variable {P : Program} {w : World} {K : PySem.W.Frag} {mg : Str → Option Value} {base : Heap}
/-! ### _law_hard -/
abbrev sHard : Stmt := top 63
def Nh : List Str := ["_law_purse_here", "_law_many", "_law_names_here", "_law_way", "_law_rows_here", "_law_turn", "_law_name"]
theorem sc_hard : FnScope ["_law_purse_here", "_law_many", "_law_names_here", "_law_way", "_law_rows_here", "_law_turn", "_law_name"] ["_law_purse_here", "_law_many"] (defScope sHard) := ⟨rfl, rfl, rfl, by decide +kernel, rfl, by decide +kernel, by decide +kernel⟩
def spHard (K : PySem.W.Frag) : Sp := fun vs H Q _ => ∃ (p : Addr) (n many : Int) (l : List V), vs = [.ref p, .int many] ∧ H p = some (.lst l) ∧ PurseL n l ∧ n ≤ 400000 ∧ 2 ≤ many ∧ many ≤ 5 ∧
  ∀ (H' : Hp) (r : Addr) (l' : List V) (qs : List Rs) (ns : List Str), But p H H' → H' p = some (.lst l') → PurseL (n + 1000) l' → H r = none → H' r = some (.lst (refs qs)) → RowsAt H' qs → UpNd (qs.map (·.2)) → GoodRs ns (qs.map (·.2)) → ns.Nodup → ns.all lowZ = true → (ns.length : Int) = many → (qs.length : Int) ≤ 60 → Unfit (qs.map (·.2)) → Q (.ref r) H'
theorem drawn_lc {p q : Addr} {n m : Int} {l : List V} {ns : List Str} {x1 x3 x4 x5 x6 : Option V} {H : Hp} {Q : VK} (hp : H p = some (.lst l)) (hl : PurseL n l) (hn : n ≤ 700000) (hN : SqL K H q (ns.map V.str)) (nqp : q ≠ p) (nd : ns.Nodup) (lo : ns.all lowZ = true) (n1 : 1 ≤ ns.length) (n6 : ns.length ≤ 6) (m1 : 1 ≤ m) (m3 : m ≤ 3)
    (k : ∀ (H' : Hp) (D : Addr) (l' : List V) (qs : List Rs), But p H H' → H' p = some (.lst l') → PurseL (n + 61) l' → H D = none → H' D = some (.lst (refs qs)) → RowsAt H' qs → GoodRs ns (qs.map (·.2)) → qs.length ≤ 2 → Q (.ref D) H') :
    tLc (iRng1 (tCons (tCall spDraw [] E0 (tCons (tVar 0) (tCons (tC (.int m)) tNil))) tNil)) (gName 5) tYes (tCall (spDrawn K) [] E0 (tCons (tVar 0) (tCons (tVar 2) (tCons (tC (.int 3)) tNil)))) [5] [some (.ref p), x1, some (.ref q), x3, x4, x5, x6] H Q := by
  have big : (100000 : Nat) < sizeLine := by decide
  refine ⟨_, rfl, p, m, n, l, rfl, hp, hl, by omega, by omega, by omega, fun l1 t hl1 t0 tm => ?_⟩
  have hp1 : (upd H p (.lst l1)) p = some (.lst l1) := upd_same
  have bu1 : But p H (upd H p (.lst l1)) := fun b o e ne => by rw [upd_ne ne]; exact e
  have nPD : ∀ D, (upd H p (.lst l1)) D = none → H D = none := fun D e => by
    by_cases c : D = p
    · rw [c, hp1] at e
      cases e
    · rw [upd_ne c] at e
      exact e
  have hN1 := bu1.sqL hN nqp
  walk_at "go"
  refine fun D nD => ?_
  have nDp : D ≠ p := fun z => by
    rw [z, hp1] at nD
    cases nD
  have nDH := nPD D nD
  refine lc_range (lo := 0) (n := t.toNat) (fun i H2 => i ≤ t.toNat ∧ ∃ (l' : List V) (ps : List Rs), ps.length = i ∧ But p H H2 ∧ H2 p = some (.lst l') ∧ PurseL (n + 1 + 20 * (i : Int)) l' ∧ H2 D = some (.lst (refs ps)) ∧ RowsAt H2 ps ∧ GoodRs ns (ps.map (·.2))) ?_ ?_ ?_
  · exact ⟨Nat.zero_le _, l1, [], rfl, bu1.trans (.of (same_new nD)), by rw [upd_ne nDp.symm]; exact hp1, by simpa using hl1, upd_same, fun _ h => (nomatch h), fun _ h => (nomatch h)⟩
  · rintro i H2 hi ⟨_, l', ps, len, bu, hp2, hl2, hD, rp, gd⟩
    walk_at "go"
    refine ⟨p, q, n + 1 + 20 * (i : Int), 3, l', ns, rfl, hp2, hl2, by omega, bu.sqL hN nqp, nqp, nd, lo, n1, n6, by decide, by decide, fun H3 t l3 rs bu3 hp3 hl3 nt ht g r1 r6 => ?_⟩
    have nt' : H2 t = none := nt
    have tD : t ≠ D := fun z => by
      rw [z, hD] at nt'
      cases nt'
    have hD3 : H3 D = some (.lst (refs ps)) := bu3 _ _ hD nDp
    have far : ∀ b o, H3 b = some o → b ≠ D → upd H3 D (.lst (refs ps ++ [V.ref t])) b = some o := fun b o e ne => by rw [upd_ne ne]; exact e
    refine ⟨_, hD3, by rw [refs, List.length_map, sizeLine_eq]; omega, hi, l3, ps ++ [(t, rs)], by rw [List.length_append, len]; rfl, fun b o e ne => far b o (bu3 b o (bu b o e ne) ne) (ne_of_none e nDH), far p _ hp3 nDp.symm, by
      have e : n + 1 + 20 * ((i + 1 : Nat) : Int) = n + 1 + 20 * (i : Int) + 20 := by omega
      rw [e]
      exact hl3, by rw [upd_same, refs, refs, List.map_append] <;> rfl, fun x hx => ?_, fun r hr' => ?_⟩
    · rcases List.mem_append.mp hx with hx | hx
      · have h2 := rp x hx
        exact far _ _ (bu3 _ _ h2 (ne_of h2 hp2 (by intro z; cases z))) (ne_of h2 hD (by intro z; cases z))
      · rw [List.mem_singleton.mp hx]
        exact far _ _ ht tD
    · rw [List.map_append] at hr'
      rcases List.mem_append.mp hr' with hr' | hr'
      · exact gd r hr'
      · rw [List.mem_singleton.mp hr']
        exact ⟨g, r1, r6⟩
  · rintro H2 ⟨_, l', ps, len, bu, hp2, hl2, hD, rp, gd⟩
    exact k H2 D l' ps bu hp2 (hl2.mono (by omega)) nDH hD rp gd (by omega)
theorem ok_hard {f : Addr} {fd : FuncData} (G : Fun K "_law_hard" "_law_hard" sHard f fd) (B : Pts mg) (hrange : mg "range" = none) (FWo : FN P w K mg base "_law_words" 5 ["_law_purse_here", "_law_many"] spWords) (FW : FN P w K mg base "_law_draw" 2 ["_law_purse_here", "_law_many"] spDraw)
    (FU : FN P w K mg base "_law_unfilled" 6 ["_law_purse_here", "_law_names_here", "_law_many"] (spUnf K)) (FG : FN P w K mg base "_law_signs" 2 ["_law_names_here"] (spSigns K)) (FD : FN P w K mg base "_law_drawn_clause" 4 ["_law_purse_here", "_law_names_here", "_law_most"] (spDrawn K))
    (FI : FN P w K mg base "_law_ring" 2 ["_law_names_here"] (spRing K)) (FS : FN P w K mg base "_law_shuffled" 3 ["_law_purse_here", "_law_some"] (spShuf K)) (FT : FN P w K mg base "_law_turned" 2 ["_law_rows_here", "_law_names_here"] (spTurned K)) :
    FnOk P w K mg base CX0 7 f fd ["_law_purse_here", "_law_many"] (spHard K) := by
  have sc := sc_hard
  obtain ⟨fWo, dWo, mWo, kWo, OWo, bWo⟩ := FWo
  obtain ⟨fW, dW, mW, kW, OW, bW⟩ := FW
  obtain ⟨fU, dU, mU, kU, OU, bU⟩ := FU
  obtain ⟨fG, dG, mG, kG, OG, bG⟩ := FG
  obtain ⟨fD, dD, mD, kD, OD, bD⟩ := FD
  obtain ⟨fI, dI, mI, kI, OI, bI⟩ := FI
  obtain ⟨fS, dS, mS, kS, OS, bS⟩ := FS
  obtain ⟨fT, dT, mT, kT, OT, bT⟩ := FT
  refine G.ok sc (fun vs H Q E h => ?_) (fun cdv A outer s H vs Q E hr h => ?_)
  · obtain ⟨_, _, _, _, rfl, _⟩ := h
    rfl
  · obtain ⟨p, n, many, l, rfl, hp, hl, hn, m2, m5, k⟩ := h
    have big : (100000 : Nat) < sizeLine := by decide
    have hr2 : Room 2 _ := hr.mono (by decide)
    have hr3 : Room 3 _ := hr.mono (by decide)
    have hr4 : Room 4 _ := hr.mono (by decide)
    have hr5 : Room 5 _ := hr.mono (by decide)
    refine ⟨_, pss_cons (ps_asg (pe_tup (pa_cons (pe_callB cr_sortedS (by rfl) B.sorted boot_sorted (pa_cons (pe_call OWo hr5 rfl mWo kWo bWo .nil pass0 (pa_cons (pv 0) (pa_cons (pv 1) pa_nil))) pa_nil)) (pa_cons (pe_call OW hr2 rfl mW kW bW .nil pass0 (pa_cons (pv 0) (pa_cons pe_int pa_nil))) pa_nil))) (pg_tup rfl (pgs_cons (pg_name (i := 2) sc.nd rfl (Or.inr rfl)) (pgs_cons (pg_name (i := 3) sc.nd rfl (Or.inl rfl)) pgs_nil))))
      (pss_cons (ps_if (pw_or (pt_cmpR op_lt (pv 3) pe_int (nomark _)) (pw_or1 (pt_cmpR op_lt (pv 1) pe_int (nomark _)))).pt
          (pss_one (ps_set (i := 4) sc.nd rfl (Or.inl rfl) (pe_call OU hr rfl mU kU bU .nil pass0 (pa_cons (pv 0) (pa_cons (pv 2) (pa_cons (pe_op op_add pe_int (pe_call OW hr2 rfl mW kW bW .nil pass0 (pa_cons (pv 0) (pa_cons pe_int pa_nil)))) pa_nil))))))
          (pss_one (ps_if (pt_cmpR op_lt (pv 3) pe_int (nomark _))
            (pss_one (ps_set (i := 4) sc.nd rfl (Or.inl rfl) (pe_op op_cat (pe_call OG hr2 rfl mG kG bG .nil pass0 (pa_cons (pe_slice sl_list (pv 2) po_none (po_some (pe_op op_add pe_int (pe_call OW hr2 rfl mW kW bW .nil pass0 (pa_cons (pv 0) (pa_cons pe_int pa_nil)))))) pa_nil))
              (pe_lc (own := [("_law_turn", 5)]) (g := gName 5) (tt := tYes) (te := tCall (spDrawn K) [] E0 (tCons (tVar 0) (tCons (tVar 2) (tCons (tC (.int 3)) tNil)))) rfl sc.nd (pi_range1 rfl hrange (pa_cons (pe_call OW hr2 rfl mW kW bW .nil pass0 (pa_cons (pv 0) (pa_cons pe_int pa_nil))) pa_nil))
                (blkOk_by (N := Nh) (sc := defScope sHard) (by decide +kernel)) (fun _ _ _ _ _ => pg_name (i := 5) sc.nd rfl (Or.inl rfl)) (fun _ _ _ _ _ => pts_nil)
                (fun _ _ _ _ _ => pe_call OD hr4 rfl mD kD bD .nil pass0 (pa_cons (pv 0) (pa_cons (pv 2) (pa_cons pe_int pa_nil))))))))
            (pss_one (ps_set (i := 4) sc.nd rfl (Or.inl rfl) (pe_op op_cat (pe_call OI hr2 rfl mI kI bI .nil pass0 (pa_cons (pe_call OS hr3 rfl mS kS bS .nil pass0 (pa_cons (pv 0) (pa_cons (pv 2) pa_nil))) pa_nil))
              (pe_lc (own := [("_law_turn", 5)]) (g := gName 5) (tt := tYes) (te := tCall (spDrawn K) [] E0 (tCons (tVar 0) (tCons (tVar 2) (tCons (tC (.int 3)) tNil)))) rfl sc.nd (pi_range1 rfl hrange (pa_cons (pe_call OW hr2 rfl mW kW bW .nil pass0 (pa_cons (pv 0) (pa_cons pe_int pa_nil))) pa_nil))
                (blkOk_by (N := Nh) (sc := defScope sHard) (by decide +kernel)) (fun _ _ _ _ _ => pg_name (i := 5) sc.nd rfl (Or.inl rfl)) (fun _ _ _ _ _ => pts_nil)
                (fun _ _ _ _ _ => pe_call OD hr4 rfl mD kD bD .nil pass0 (pa_cons (pv 0) (pa_cons (pv 2) (pa_cons pe_int pa_nil)))))))))))
      (pss_one (ps_ret (pe_call OT hr2 rfl mT kT bT .nil pass0 (pa_cons (pv 4) (pa_cons
          (pe_lc (own := [("_law_name", 6)]) (g := gName 6) (tt := tTest (tOp rEq (tCall spDraw [] E0 (tCons (tVar 0) (tCons (tC (.int 2)) tNil))) (tC (.int 0)))) (te := tVar 6) rfl sc.nd (pi_list (pv 2))
                (blkOk_by (N := Nh) (sc := defScope sHard) (by decide +kernel)) (fun _ _ _ _ _ => pg_name (i := 6) sc.nd rfl (Or.inl rfl)) (fun _ _ _ _ _ => pts_one (pt_cmpR op_eq (pe_call OW hr2 rfl mW kW bW .nil pass0 (pa_cons (pv 0) (pa_cons pe_int pa_nil))) pe_int (nomark _)))
                (fun _ _ _ _ _ => pv 6)) pa_nil)))))), ?_⟩
    refine ⟨_, rfl, _, rfl, p, n, many, l, rfl, hp, hl, by omega, by omega, by omega, fun H1 w0 l1 ns0 bu1 hp1 hl1 nw hw nd0 lo0 len0 => ?_⟩
    refine ⟨w0, ns0, rfl, SqL.of hw, by omega, fun ns q pm so nq => ?_⟩
    have nqp : q ≠ p := fun z => by
      rw [z, hp1] at nq
      cases nq
    have nd : ns.Nodup := pm.nodup_iff.mpr nd0
    have lo : ns.all lowZ = true := List.all_eq_true.mpr fun y hy => List.all_eq_true.mp lo0 y (pm.mem_iff.mp hy)
    have len : (ns.length : Int) = many := by rw [pm.length_eq]; exact len0
    refine ⟨_, rfl, p, 8, n + 200, l1, rfl, by rw [upd_ne nqp.symm]; exact hp1, hl1, by omega, by decide, by decide, fun l2 way hl2 w0 w8 => ?_⟩
    refine ⟨(by show 2 ≤ sizeLine; omega), fun T nT => ?_⟩
    refine ⟨T, _, rfl, SqT.of upd_same, rfl, _, _, rfl, _, [], rfl, rfl, ?_⟩
    have hTp : T ≠ p := fun z => by
      rw [z, upd_same] at nT
      cases nT
    have nH1 : ∀ b, (upd (upd H1 q (.lst (ns.map V.str))) p (.lst l2)) b = none → H1 b = none := fun b e => by
      by_cases c : b = p
      · rw [c, upd_same] at e
        cases e
      · rw [upd_ne c] at e
        by_cases c' : b = q
        · rw [c', upd_same] at e
          cases e
        · rw [upd_ne c'] at e
          exact e
    have bu2 : But p H (upd (upd (upd H1 q (.lst (ns.map V.str))) p (.lst l2)) T (.tup [.ref q, .int way])) := fun b o e ne => by
      have e1 := bu1 b o e ne
      rw [upd_ne (ne_of_none e1 (nH1 T nT)), upd_ne ne, upd_ne (ne_of_none e1 nq)]
      exact e1
    have hp2 : (upd (upd (upd H1 q (.lst (ns.map V.str))) p (.lst l2)) T (.tup [.ref q, .int way])) p = some (.lst l2) := by rw [upd_ne hTp.symm, upd_same]
    have hq2 : (upd (upd (upd H1 q (.lst (ns.map V.str))) p (.lst l2)) T (.tup [.ref q, .int way])) q = some (.lst (ns.map V.str)) := by
      have e : (upd (upd H1 q (.lst (ns.map V.str))) p (.lst l2)) q = some (.lst (ns.map V.str)) := by rw [upd_ne nqp, upd_same]
      rw [upd_ne (ne_of_none e nT)]
      exact e
    generalize (upd (upd (upd H1 q (.lst (ns.map V.str))) p (.lst l2)) T (.tup [.ref q, .int way])) = H2 at bu2 hp2 hq2
    have fin : ∀ (H3 : Hp) (r : Addr) (l3 : List V) (ps : List Rs), But p H2 H3 → H3 p = some (.lst l3) → PurseL (n + 900) l3 → H3 r = some (.lst (refs ps)) → RowsAt H3 ps → GoodRs ns (ps.map (·.2)) → ps.length ≤ 60 → Unfit (ps.map (·.2)) → r ≠ p →
        tRet (tCall (spTurned K) [] E0 (tCons (tVar 4) (tCons (tLc (iList K (tVar 2)) (gName 6) (tTest (tOp rEq (tCall spDraw [] E0 (tCons (tVar 0) (tCons (tC (.int 2)) tNil))) (tC (.int 0)))) (tVar 6) [6]) tNil))) { nx := fun x H' => Q V.non H', rt := Q } [some (.ref p), some (.int many), some (.ref q), some (.int way), some (.ref r), none, none] H3 := by
      intro H3 r l3 ps bu3 hp3 hl3 hr3' rw3 gd few un nrp
      have hq3 := bu3 _ _ hq2 nqp
      dsimp only [tRet]
      rw [tCall]
      dsimp only [tCons, tNil]
      refine ⟨.ref r, rfl, ?_⟩
      refine ⟨_, rfl, q, rfl, ⟨_, SqL.of hq3⟩, fun D nD => ?_⟩
      have nDp : D ≠ p := fun z => by
        rw [z, hp3] at nD
        cases nD
      refine lc_list (K := K) (a := q) (xs := ns.map V.str) (fun i Hc => i ≤ ns.length ∧ ∃ (l4 : List V) (fs : List Str), But p H3 Hc ∧ Hc p = some (.lst l4) ∧ PurseL (n + 900 + (i : Int)) l4 ∧ Hc D = some (.lst (fs.map V.str)) ∧ fs.length ≤ i) ?_ ?_ ?_ ?_
      · exact ⟨Nat.zero_le _, l3, [], .of (same_new nD), (upd_ne nDp.symm).trans hp3, by simpa using hl3, upd_same, Nat.le_refl _⟩
      · rintro i Hc hi ⟨_, l4, fs, bu4, _⟩
        exact SqL.of (bu4 _ _ hq3 nqp)
      · rintro i x Hc hx ⟨hi, l4, fs, bu4, hp4, hl4, hD, lf⟩
        have hi2 : i < ns.length := by
          have := (List.getElem?_eq_some_iff.mp hx).1
          rw [List.length_map] at this
          exact this
        rw [List.getElem?_map, List.getElem?_eq_getElem hi2] at hx
        cases hx
        refine ⟨rfl, ?_⟩
        refine ⟨_, rfl, p, 2, _, l4, rfl, hp4, hl4, by omega, by decide, by decide, fun l5 t hl5 t0 t1 => ?_⟩
        have bu5 : But p H3 (upd Hc p (.lst l5)) := fun b o e ne => by rw [upd_ne ne]; exact bu4 b o e ne
        have hl5' : PurseL (n + 900 + ((i + 1 : Nat) : Int)) l5 := hl5.mono (by omega)
        have hD5 : (upd Hc p (.lst l5)) D = some (.lst (fs.map V.str)) := by rw [upd_ne nDp]; exact hD
        refine ⟨rfl, _, rfl, ?_⟩
        refine ite2 (fun c => ?_) (fun c => ?_)
        · refine ⟨_, rfl, _, hD5, by rw [List.length_map]; omega, hi2, l5, fs ++ [ns[i]], fun b o e ne => ?_, ?_, hl5', by rw [upd_same, List.map_append] <;> rfl, by rw [List.length_append, List.length_singleton]; omega⟩
          · rw [upd_ne (ne_of_none e nD)]
            exact bu5 b o e ne
          · rw [upd_ne nDp.symm, upd_same]
        · exact ⟨hi2, l5, fs, bu5, upd_same, hl5', hD5, by omega⟩
      · rintro Hc ⟨_, l4, fs, bu4, hp4, hl4, hD, lf⟩
        have rw4 : RowsAt Hc ps := rows_but rw3 bu4 hp3
        have hr4' : Hc r = some (.lst (refs ps)) := by
          exact bu4 _ _ hr3' nrp
        refine ⟨r, D, ps, fs, ns, rfl, SqL.of hr4', rw4, by omega, gd, lo, SqL.of hD, by rw [List.length_map] at lf; omega, fun H5 z cs s5 nz pr => ?_⟩
        obtain ⟨nz', qs, hz, rz, ez⟩ := nz
        have lit : ∀ w ∈ ps.map (·.2), w.all litS = true := fun w hw => good_litS lo (gd w hw).1
        have un' : Unfit (uni cs) := unfit_uni (unfit_turn un lit pr)
        have gd' : GoodRs ns (uni cs) := by
          intro c hc
          obtain ⟨w, hw, io⟩ := paired_back pr c (mem_uni.mp hc)
          obtain ⟨g, g1, g6⟩ := gd w hw
          have lw := lit w hw
          have tp : ∀ u : List Str, Paired (fun c y => c = y ∨ c = oppS y) (u.map (turnS fs)) u := fun u => by
            induction u with
            | nil => exact .nil
            | cons y u ih =>
              refine .cons ?_ ih
              unfold turnS
              by_cases m : bareS y ∈ fs
              · rw [if_pos m]; exact .inr rfl
              · rw [if_neg m]; exact .inl rfl
          obtain ⟨g', e'⟩ := g.turn lo (tp w) io
          exact ⟨g', by omega, by omega⟩
        have lcs : cs.length = ps.length := by
          have := pr.length
          rw [List.length_map] at this
          exact this.symm
        have lq : qs.length ≤ cs.length := by
          have h1 := congrArg List.length ez
          rw [List.length_map] at h1
          rw [h1]
          exact uni_len cs
        have bu5 : But p H H5 := bu2.trans (bu3.trans (bu4.trans (.of s5)))
        have nzH : H z = none := by
          cases c : H z with
          | none => rfl
          | some o =>
            by_cases e : z = p
            · rw [e, hp4] at nz'
              cases nz'
            · have := bu4 _ _ (bu3 _ _ (bu2 _ _ c e) e) e
              rw [nz'] at this
              cases this
        rw [List.length_map] at hl4
        exact k H5 z l4 qs ns bu5 (s5 _ _ hp4) (hl4.mono (by omega)) nzH hz rz (ez ▸ upnd_uni cs) (ez ▸ gd') nd lo len (by omega) (ez ▸ un')
    have n2 : 2 ≤ ns.length := by omega
    have n5 : ns.length ≤ 5 := by omega
    have litR : ∀ {ps : List (List Str)}, GoodRs ns ps → ∀ w ∈ ps, w.all litS = true := fun gd w hw => good_litS lo (gd w hw).1
    have nPD : ∀ (l3 : List V) D, (upd H2 p (.lst l3)) D = none → H2 D = none := fun l3 D e => by
      by_cases c : D = p
      · rw [c, upd_same] at e
        cases e
      · rw [upd_ne c] at e
        exact e
    have buP : ∀ l3 : List V, But p H2 (upd H2 p (.lst l3)) := fun l3 b o e ne => by rw [upd_ne ne]; exact e
    have hN2 : SqL K H2 q (ns.map V.str) := SqL.of hq2
    have unf : ∀ Q' : VK, (∀ (H3 : Hp) (r : Addr) (l3 : List V) (ps : List Rs), But p H2 H3 → H3 p = some (.lst l3) → PurseL (n + 900) l3 → H3 r = some (.lst (refs ps)) → RowsAt H3 ps → GoodRs ns (ps.map (·.2)) → ps.length ≤ 60 → Unfit (ps.map (·.2)) → r ≠ p → Q' (.ref r) H3) →
        tCall (spUnf K) [] E0 (tCons (tVar 0) (tCons (tVar 2) (tCons (tOp (rI0 fun i j => .int (i + j)) (tC (.int 2)) (tCall spDraw [] E0 (tCons (tVar 0) (tCons (tC (.int 5)) tNil)))) tNil))) [some (.ref p), some (.int many), some (.ref q), some (.int way), none, none, none] H2 Q' := by
      intro Q' kk
      refine ⟨_, rfl, _, rfl, _, rfl, p, 5, _, l2, rfl, hp2, hl2, by omega, by decide, by decide, fun l3 t hl3 t0 t5 => ?_⟩
      refine ⟨_, _, rfl, rfl, ?_⟩
      refine ⟨p, q, _, 2 + t, l3, ns, rfl, upd_same, hl3, by omega, (buP l3).sqL hN2 nqp, nqp, nd, lo, by omega, n5, by omega, by omega, fun H3 r l4 ps bu hp3 hl4 nr hr3 rw3 up gd few nf => ?_⟩
      refine kk H3 r l4 ps ((buP l3).trans bu) hp3 (hl4.mono (by omega)) hr3 rw3 gd (by omega) (unfit_nofill nd lo (litR gd) nf) fun z => ?_
      rw [z, upd_same] at nr
      cases nr
    have join : ∀ (m : Int) (H4 : Hp) (r1 : Addr) (l4 : List V) (ps1 : List Rs), 1 ≤ m → m ≤ 3 → But p H2 H4 → H4 p = some (.lst l4) → PurseL (n + 300) l4 → H4 r1 = some (.lst (refs ps1)) → RowsAt H4 ps1 → GoodRs ns (ps1.map (·.2)) → ps1.length ≤ 20 → Unfit (ps1.map (·.2)) → r1 ≠ p →
        ∀ Q' : VK, (∀ (H3 : Hp) (r : Addr) (l3 : List V) (ps : List Rs), But p H2 H3 → H3 p = some (.lst l3) → PurseL (n + 900) l3 → H3 r = some (.lst (refs ps)) → RowsAt H3 ps → GoodRs ns (ps.map (·.2)) → ps.length ≤ 60 → Unfit (ps.map (·.2)) → r ≠ p → Q' (.ref r) H3) →
        tLc (iRng1 (tCons (tCall spDraw [] E0 (tCons (tVar 0) (tCons (tC (.int m)) tNil))) tNil)) (gName 5) tYes (tCall (spDrawn K) [] E0 (tCons (tVar 0) (tCons (tVar 2) (tCons (tC (.int 3)) tNil)))) [5] [some (.ref p), some (.int many), some (.ref q), some (.int way), none, none, none] H4 (fun y H5 => rCat (.ref r1) y H5 Q') := by
      intro m H4 r1 l4 ps1 m1 m3 bu4 hp4 hl4 hr1 rw1 gd1 few1 un1 n1p Q' kk
      refine drawn_lc hp4 hl4 (by omega) (SqL.of (bu4 _ _ hq2 nqp)) nqp nd lo (by omega) (by omega) m1 m3 fun H5 D l5 qs bu5 hp5 hl5 nD hD rw5 gd5 few5 => ?_
      have rw1' : RowsAt H5 ps1 := rows_but rw1 bu5 hp4
      refine ⟨r1, D, _, _, rfl, rfl, bu5 _ _ hr1 n1p, hD, by rw [refs, refs, List.length_map, List.length_map]; omega, fun z nz => ?_⟩
      have sz := same_new (o := .lst (refs ps1 ++ refs qs)) nz
      refine kk _ z l5 (ps1 ++ qs) (bu4.trans (bu5.trans (.of sz))) (sz _ _ hp5) (hl5.mono (by omega)) (by rw [upd_same, refs, refs, refs, List.map_append]) (fun x hx => ?_) (fun r hr' => ?_) (by rw [List.length_append]; omega) (unfit_sub un1 fun r hr' => by rw [List.map_append]; exact List.mem_append_left _ hr') fun e => ?_
      · rcases List.mem_append.mp hx with hx | hx
        · exact sz _ _ (rw1' x hx)
        · exact sz _ _ (rw5 x hx)
      · rw [List.map_append] at hr'
        rcases List.mem_append.mp hr' with hr' | hr'
        · exact gd1 r hr'
        · exact gd5 r hr'
      · rw [e, hp5] at nz
        cases nz
    walk_at "go"
    refine ite2 (fun c1 => ?_) (fun c1 => ?_)
    · exact iteT (unf _ fin)
    walk_at "go"
    refine ite2 (fun c2 => ?_) (fun c2 => ?_)
    · exact unf _ fin
    walk_at "go"
    refine ite2 (fun c3 => ?_) (fun c3 => ?_)
    · refine ⟨.ref q, rfl, _, rfl, p, 2, _, l2, rfl, hp2, hl2, by omega, by decide, by decide, fun l3 t hl3 t0 t2 => ?_⟩
      refine ⟨_, _, rfl, rfl, ?_⟩
      refine ⟨_, rfl, q, _, rfl, (buP l3).sqL hN2 nqp, fun c nc => ?_⟩
      rw [cutV_take _ _ (by omega), ← List.map_take]
      have nt : (ns.take (2 + t).toNat).length ≤ 3 ∧ 1 ≤ (ns.take (2 + t).toNat).length := by
        rw [List.length_take]
        omega
      have ndt : (ns.take (2 + t).toNat).Nodup := nd.sublist (List.take_sublist ..)
      have subt : ∀ s ∈ ns.take (2 + t).toNat, s ∈ ns := fun s hs => List.mem_of_mem_take hs
      have lot : (ns.take (2 + t).toNat).all lowZ = true := List.all_eq_true.mpr fun y hy => List.all_eq_true.mp lo y (subt y hy)
      generalize ns.take (2 + t).toNat = ss at nt ndt subt lot
      have sc1 := same_new (o := .lst (ss.map V.str)) nc
      refine ⟨c, ss, rfl, SqL.of upd_same, by omega, ndt, lot, fun H4 r cs s4 nr pr => ?_⟩
      obtain ⟨nr', ps, hr4, rp, ep⟩ := nr
      have hp4 : H4 p = some (.lst l3) := s4 _ _ (sc1 _ _ upd_same)
      have lcs : cs.length = 2 ^ ss.length := by
        rw [← signsU_len ss]
        exact pr.length.symm
      have l8 : 2 ^ ss.length ≤ 8 := Nat.le_trans (Nat.pow_le_pow_right (by decide) nt.1) (by decide)
      have lps : ps.length ≤ cs.length := by
        have h1 := congrArg List.length ep
        rw [List.length_map] at h1
        rw [h1]
        exact uni_len cs
      refine join 3 H4 r l3 ps (by decide) (by decide) ((buP l3).trans (.of (same_trans sc1 s4))) hp4 (hl3.mono (by omega)) hr4 rp (fun x hx => ?_) (by omega) (ep ▸ unfit_uni (unfit_ord (unfit_signs lot) pr)) (fun e => ?_) _ fin
      · obtain ⟨w, hw, io⟩ := paired_back pr x (mem_uni.mp (ep ▸ hx))
        obtain ⟨g, e⟩ := good_of (signsU_sgs ss w hw) ndt subt lo io
        exact ⟨g, by omega, by omega⟩
      · rw [e, sc1 _ _ upd_same] at nr'
        cases nr'
    · refine ⟨_, rfl, _, rfl, p, q, _, l2, ns.map V.str, rfl, hp2, hl2, by omega, hN2, nqp, by rw [List.length_map]; omega, fun H3 c l3 ys bu3 hp3 hl3 nc hc pm2 => ?_⟩
      obtain ⟨zs, rfl, pz⟩ := strs_perm pm2
      rw [List.length_map] at hl3
      have lz := pz.length_eq
      have ndz : zs.Nodup := pz.nodup_iff.mpr nd
      have loz : zs.all lowZ = true := List.all_eq_true.mpr fun y hy => List.all_eq_true.mp lo y (pz.mem_iff.mp hy)
      refine ⟨c, zs, rfl, SqL.of hc, by omega, by omega, loz, fun H4 r cs s4 nr pr => ?_⟩
      obtain ⟨nr', ps, hr4, rp, ep⟩ := nr
      have hp4 : H4 p = some (.lst l3) := s4 _ _ hp3
      have lcs : cs.length = 2 * zs.length := by
        rw [← ring_len (ns := zs) (by omega)]
        exact pr.length.symm
      have lps : ps.length ≤ cs.length := by
        have h1 := congrArg List.length ep
        rw [List.length_map] at h1
        rw [h1]
        exact uni_len cs
      refine join 2 H4 r l3 ps (by decide) (by decide) (bu3.trans (.of s4)) hp4 (hl3.mono (by omega)) hr4 rp (fun x hx => ?_) (by omega) (ep ▸ unfit_uni (unfit_ord (unfit_ring loz (by omega)) pr)) (fun e => ?_) _ fin
      · obtain ⟨w, hw, io⟩ := paired_back pr x (mem_uni.mp (ep ▸ hx))
        obtain ⟨a, b, sg, ne, ha, hb⟩ := ring_two ndz (by omega) w hw
        obtain ⟨g, e⟩ := good_of sg (List.nodup_cons.mpr ⟨fun h => ne (List.mem_singleton.mp h), List.nodup_cons.mpr ⟨List.not_mem_nil, .nil⟩⟩) (fun s hs => by
          rcases List.mem_cons.mp hs with rfl | hs
          · exact pz.mem_iff.mp ha
          · rw [List.mem_singleton.mp hs]; exact pz.mem_iff.mp hb) lo io
        have e2 : x.length = 2 := e
        exact ⟨g, by omega, by omega⟩
      · rw [e, hp3] at nr'
        cases nr'
end
end My
end

section
set_option Elab.async false
set_option linter.all false
set_option maxRecDepth 100000
set_option maxHeartbeats 4000000
namespace My
local macro_rules | `(tactic| walk_at "go") => `(tactic| (repeat (first
  | (refine ⟨_, rfl, ?_⟩)
  | (refine ⟨_, _, rfl, rfl, ?_⟩)
  | (refine ⟨_, _, rfl, ?_⟩)
  | (refine ⟨rfl, ?_⟩)
  | (refine Or.inl ⟨_, rfl, ?_⟩)
  | (refine ⟨_, _, _, _, rfl, rfl, L2.SqL.of (by first | assumption | exact L2.upd_same), rfl, ?_⟩)
  | (refine ⟨_, _, _, _, rfl, rfl, (by first | assumption | exact L2.upd_same), rfl, ?_⟩)
  | (refine And.intro (by first | omega | decide | (unfold L2.CPow; decide) | (unfold L2.CMul; omega) | (unfold L2.CDiv; omega)) ?_))))
open PySem PySem.Spec PyProof.Rows L2 TL MyF MyS MyW RZ MyR MyT MyQ MyV MyZ
/-! ### the mathematics of the law's own tree -/
/-- the names that neither way stands in the part -/
def freeOf (ns here : List Str) : List Str := ns.filter fun n => decide (n ∉ here) && decide (dash ++ n ∉ here)
theorem mem_free {ns here : List Str} {n : Str} : n ∈ freeOf ns here ↔ n ∈ ns ∧ n ∉ here ∧ dash ++ n ∉ here := by
  rw [freeOf, List.mem_filter, Bool.and_eq_true, decide_eq_true_eq, decide_eq_true_eq]
theorem free_less {ns here : List Str} {n c : Str} (h : n ∈ freeOf ns here) (sg : Sg c n) : (freeOf ns (here ++ [c])).length < (freeOf ns here).length := by
  have sub : freeOf ns (here ++ [c]) = (freeOf ns here).filter fun m => decide (m ≠ c) && decide (dash ++ m ≠ c) := by
    rw [freeOf, freeOf, List.filter_filter]
    refine List.filter_congr fun m _ => ?_
    rw [Bool.eq_iff_iff]
    simp only [Bool.and_eq_true, decide_eq_true_eq, List.mem_append, List.mem_singleton, not_or]
    constructor
    · rintro ⟨⟨a, b⟩, d, e⟩
      exact ⟨⟨b, e⟩, a, d⟩
    · rintro ⟨⟨b, e⟩, a, d⟩
      exact ⟨⟨a, b⟩, d, e⟩
  rw [sub]
  refine List.length_filter_lt_length_iff_exists.mpr ⟨n, h, ?_⟩
  rw [Bool.and_eq_true, decide_eq_true_eq, decide_eq_true_eq]
  rintro ⟨a, b⟩
  rcases sg with e | e
  · exact a e.symm
  · exact b e.symm
/-- where no name is free, some row is broken -/
theorem full_breaks {rows : List (List Str)} {ns here : List Str} (un : Unfit rows) (cov : ∀ r ∈ rows, ∀ y ∈ r, bareS y ∈ ns) (h : freeOf ns here = []) : ∃ r ∈ rows, breaksB here r = true := by
  obtain ⟨r, hr, b⟩ := un fun n => decide (n ∈ here)
  refine ⟨r, hr, List.all_eq_true.mpr fun y hy => decide_eq_true ?_⟩
  have hb := b y hy
  have hn := cov r hr y hy
  have nf : bareS y ∈ here ∨ dash ++ bareS y ∈ here := by
    by_cases c : bareS y ∈ here
    · exact .inl c
    by_cases d : dash ++ bareS y ∈ here
    · exact .inr d
    have := mem_free.mpr ⟨hn, c, d⟩
    rw [h] at this
    cases this
  unfold tellS at hb
  by_cases ng : negS y = true
  · rw [if_pos ng, Bool.not_eq_false'] at hb
    rw [opp_neg ng]
    exact of_decide_eq_true hb
  · rw [if_neg ng] at hb
    have eb : bareS y = y := bare_of_pos (by simpa using ng)
    have ny := of_decide_eq_false hb
    rw [opp_pos ng]
    rw [eb] at nf
    exact nf.resolve_left ny
end My
end

section
set_option Elab.async false
set_option linter.all false
set_option maxRecDepth 100000
set_option maxHeartbeats 4000000
namespace My
local macro_rules | `(tactic| walk_at "go") => `(tactic| (repeat (first
  | (refine ⟨_, rfl, ?_⟩)
  | (refine ⟨_, _, rfl, rfl, ?_⟩)
  | (refine ⟨_, _, rfl, ?_⟩)
  | (refine ⟨rfl, ?_⟩)
  | (refine Or.inl ⟨_, rfl, ?_⟩)
  | (refine ⟨_, _, _, _, rfl, rfl, L2.SqL.of (by first | assumption | exact L2.upd_same), rfl, ?_⟩)
  | (refine ⟨_, _, _, _, rfl, rfl, (by first | assumption | exact L2.upd_same), rfl, ?_⟩)
  | (refine And.intro (by first | omega | decide | (unfold L2.CPow; decide) | (unfold L2.CMul; omega) | (unfold L2.CDiv; omega)) ?_))))
open PySem PySem.Spec PyProof.Rows L2 TL MyF MyS MyW RZ MyR MyT MyQ MyV MyZ
def keepF (part : List Str) : V → Option V
  | .str z => if z ∉ part ∧ dash ++ z ∉ part then some (.str z) else none
  | _ => none
theorem keepF_str (part : List Str) (y : Str) : keepF part (.str y) = if y ∉ part ∧ dash ++ y ∉ part then some (.str y) else none := rfl
theorem keepF_all (part : List Str) (l : List Str) : (l.map V.str).filterMap (keepF part) = (freeOf l part).map V.str := by
  induction l with
  | nil => rfl
  | cons y l ih =>
    rw [List.map_cons, List.filterMap_cons, ih, keepF_str, freeOf, freeOf, List.filter_cons]
    by_cases c : y ∉ part ∧ dash ++ y ∉ part
    · rw [if_pos (c := (decide (y ∉ part) && decide (dash ++ y ∉ part)) = true) (by rw [Bool.and_eq_true, decide_eq_true_eq, decide_eq_true_eq]; exact c), if_pos c]
      rfl
    · rw [if_neg (c := (decide (y ∉ part) && decide (dash ++ y ∉ part)) = true) (by rw [Bool.and_eq_true, decide_eq_true_eq, decide_eq_true_eq]; exact c), if_neg c]
section
variable {P : Program} {w : World} {K : PySem.W.Frag} {mg : Str → Option Value} {base : Heap}
/-! ### _law_own_tree -/
abbrev sOwn : Stmt := top 67
def No : List Str := ["_law_purse_here", "_law_rows_here", "_law_here", "_law_is_late", "_law_some", "_law_free", "_law_name"]
theorem sc_own : FnScope ["_law_purse_here", "_law_rows_here", "_law_here", "_law_is_late", "_law_some", "_law_free", "_law_name"] ["_law_purse_here", "_law_rows_here", "_law_here", "_law_is_late"] (defScope sOwn) := ⟨rfl, rfl, rfl, by decide +kernel, rfl, by decide +kernel, by decide +kernel⟩
/-- the tree of the rows ps (over the names nn) below the part, d names of them free at most -/
def spOwn (K : PySem.W.Frag) (ps : List Rs) (nn : List Str) (d : Nat) : Sp := fun vs H Q _ => ∃ (p a h : Addr) (late : Bool) (n : Int) (l : List V) (part : List Str), vs = [.ref p, .ref a, .ref h, .bl late] ∧ H p = some (.lst l) ∧ PurseL n l ∧ n + 4 * 2 ^ d ≤ 800000 ∧ H a = some (.lst (refs ps)) ∧ a ≠ p ∧ RowsAt H ps ∧ H h = some (.lst (part.map V.str)) ∧ h ≠ p ∧
  (freeOf nn part).length ≤ d ∧ d ≤ 6 ∧ part.length + d ≤ 20 ∧ (∀ y ∈ part, litS y = true) ∧
  ∀ (H' : Hp) (l' : List V) (v : V) (t : Tr), But p H H' → H' p = some (.lst l') → PurseL (n + (4 * 2 ^ d - 2)) l' → TrAt H' v t → GoodT (ps.map (·.2)) nn part t → t.dep ≤ d → Q v H'
theorem ok_own {ps : List Rs} {nn ns : List Str} {m d : Nat} {f : Addr} {fd : FuncData} (G : Fun K "_law_own_tree" "_law_own_tree" sOwn f fd) (hm : 3 ≤ m) (un : Unfit (ps.map (·.2))) (gd : GoodRs ns (ps.map (·.2))) (lo : ns.all lowZ = true) (n6 : ns.length ≤ 6) (few : ps.length ≤ 60) (hnn : NamesOf nn ps)
    (FB : FN P w K mg base "_law_broken" 3 ["_law_rows_here", "_law_part"] (spFilt K)) (FN' : FN P w K mg base "_law_names" 2 ["_law_rows_here"] (spNames K)) (FW : FN P w K mg base "_law_draw" 2 ["_law_purse_here", "_law_many"] spDraw) (FO : FN P w K mg base "_law_one_of" 3 ["_law_purse_here", "_law_some"] (spOne K))
    (mE : mg "_law_own_tree" = some (.ref f)) (kE : PySem.W.keepIn K (.ref f) = true) (bE : Binds K fd ["_law_purse_here", "_law_rows_here", "_law_here", "_law_is_late"] [])
    (OE : d = 0 ∨ ∃ d', d = d' + 1 ∧ FnOk P w K mg base CX0 m f fd ["_law_purse_here", "_law_rows_here", "_law_here", "_law_is_late"] (spOwn K ps nn d')) : FnOk P w K mg base CX0 (m + 1) f fd ["_law_purse_here", "_law_rows_here", "_law_here", "_law_is_late"] (spOwn K ps nn d) := by
  have sc := sc_own
  obtain ⟨fB, dB, mB, kB, OB, bB⟩ := FB
  obtain ⟨fN, dN, mN, kN, ON, bN⟩ := FN'
  obtain ⟨fW, dW, mW, kW, OW, bW⟩ := FW
  obtain ⟨fO, dO, mO, kO, OO, bO⟩ := FO
  refine G.ok sc (fun vs H Q E h => ?_) (fun cdv A outer s H vs Q E hr h => ?_)
  · obtain ⟨_, _, _, _, _, _, _, rfl, _⟩ := h
    rfl
  · obtain ⟨p, a, h, late, n, l, part, rfl, hp, hl, hn, ha, nap, rw', hh, nhp, fr, d6, pl, lp, k⟩ := h
    have hr2 : Room 2 _ := hr.mono (by omega)
    have hr3 : Room 3 _ := hr.mono (by omega)
    rcases OE with rfl | ⟨d', rfl, OF⟩
    · refine ⟨_, pss_cons (ps_par (i := 4) (j := 5) (by rfl) sc.nd rfl rfl (by decide) rfl rfl (pa_cons (pe_call OB hr3 rfl mB kB bB .nil pass0 (pa_cons (pv 1) (pa_cons (pv 2) pa_nil)))
          (pa_cons (pe_lc (own := [("_law_name", 6)]) (g := gName 6) (tt := tAnd (tTest (tOp (rIn K true) (tVar 6) (tVar 2))) (tTest (tOp (rIn K true) (tOp rAddS (tC (.str dash)) (tVar 6)) (tVar 2)))) (te := tVar 6) rfl sc.nd (pi_list (pe_call ON hr2 rfl mN kN bN .nil pass0 (pa_cons (pv 1) pa_nil)))
            (blkOk_by (N := No) (sc := defScope sOwn) (by decide +kernel)) (fun _ _ _ _ _ => pg_name (i := 6) sc.nd rfl (Or.inl rfl)) (fun _ _ _ _ _ => pts_one (PW.pt (pw_and (pt_cmpR op_notIn_seq (pv 6) (pv 2) (by rfl)) (pw_and1 (pt_cmpR op_notIn_seq (pe_op op_add_str pe_str (pv 6)) (pv 2) (by rfl))))))
            (fun _ _ _ _ _ => pv 6)) pa_nil)) (by rfl))
        (pss_cons (ps_if (PW.pt (pw_and (pt_cmpR (op_neD hr.units) (pv 4) (pe_lst pa_nil) (nomark _)) (pw_and1 (PW.pt (pw_or (pt_cmpR (op_eqD hr.units) (pv 5) (pe_lst pa_nil) (nomark _)) (pw_or (pt_not (pt_val (pv 3))) (pw_or1 (pt_cmpR op_eq (pe_call OW hr2 rfl mW kW bW .nil pass0 (pa_cons (pv 0) (pa_cons pe_int pa_nil))) pe_int (nomark _)))))))))
            (pss_one (ps_ret (pe_call OO hr3 rfl mO kO bO .nil pass0 (pa_cons (pv 0) (pa_cons (pv 4) pa_nil))))) pss_nil)
        pss_never), ?_⟩
      refine ⟨_, rfl, _, rfl, a, h, ps, part, rfl, SqL.of ha, rw', by omega, fun r hr' => ?_, .inl (SqL.of hh), fun H1 sA s1 nsA hs => ?_⟩
      · have g := gd r.2 (List.mem_map.mpr ⟨r, hr', rfl⟩)
        have lt := good_litS lo g.1
        exact ⟨fun y hy => ⟨lit_pos (List.all_eq_true.mp lt y hy), lit_short (List.all_eq_true.mp lt y hy)⟩, by omega⟩
      have covs : ∀ r ∈ ps, ∀ y ∈ r.2, bareS y ∈ ns := fun r hr' y hy => by
        obtain ⟨z, hz, sg⟩ := (gd r.2 (List.mem_map.mpr ⟨r, hr', rfl⟩)).1.lit y hy
        rw [sg.bare (List.all_eq_true.mp lo z hz)]
        exact hz
      have toNames : ∀ (Q' : VK), (∀ H2 q, Same H1 H2 → H2 q = some (.lst (nn.map V.str)) → H1 q = none → Q' (.ref q) H2) → tCall (spNames K) [] E0 (tCons (tVar 1) tNil) (L2.start No [.ref p, .ref a, .ref h, .bl late]) H1 Q' := by
        intro Q' kk
        refine ⟨_, rfl, a, ps, rfl, SqL.of (s1 _ _ ha), rows_same rw' s1, fun r hr' => ?_, ⟨ns, by omega, fun y hy => ?_⟩, fun H2 q nn' s2 nq hq nm => ?_⟩
        · have lt := good_litS lo (gd r.2 (List.mem_map.mpr ⟨r, hr', rfl⟩)).1
          exact fun y hy => ⟨lit_pos (List.all_eq_true.mp lt y hy), lit_short (List.all_eq_true.mp lt y hy)⟩
        · obtain ⟨r, hr', hy'⟩ := List.mem_flatMap.mp hy
          exact covs r hr' y hy'
        · have e : nn' = nn := pw_uniq (asc_pw (asc_of_sorted nm.up nm.nd)) (asc_pw (asc_of_sorted hnn.up hnn.nd)) fun y => (nm.mem y).trans (hnn.mem y).symm
          exact kk H2 q s2 (e ▸ hq) nq
      dsimp only [tCons]
      refine toNames _ fun H2 q s2 hq nq => ?_
      refine ⟨q, rfl, ⟨_, SqL.of hq⟩, fun D nD => ?_⟩
      have lnn : nn.length ≤ 6 := Nat.le_trans (nd_fewG (few := ns) hnn.nd fun y hy => by
        obtain ⟨z, hz, rfl⟩ := List.mem_map.mp ((hnn.mem y).mp hy)
        obtain ⟨r, hr', hy'⟩ := List.mem_flatMap.mp hz
        exact covs r hr' z hy') n6
      have lonn : ∀ y ∈ nn, y ∈ ns := fun y hy => by
        obtain ⟨z, hz, rfl⟩ := List.mem_map.mp ((hnn.mem y).mp hy)
        obtain ⟨r, hr', hy'⟩ := List.mem_flatMap.mp hz
        exact covs r hr' z hy'
      have s12 := same_trans s1 s2
      refine lstD (keepF part) (SqL.of hq) (by rw [List.length_map, sizeLine_eq]; omega) nD (fun x H3 Ψ Θ hx s3 yes no => ?_) (fun H3 s3 h3 => ?_)
      · obtain ⟨y, hy, rfl⟩ := List.mem_map.mp hx
        have ly := List.all_eq_true.mp lo y (lonn y hy)
        refine ⟨rfl, ?_⟩
        refine ⟨_, rfl, _, rfl, h, _, rfl, .inl (SqL.of (s3 _ _ (s12 _ _ hh))), rfl, flat_strs part, ?_⟩
        refine ⟨_, rfl, ?_⟩
        rw [inV_strs]
        by_cases m1 : y ∈ part
        · rw [decide_eq_true m1]
          refine iteF ?_
          refine iteF (no H3 ?_ (same_refl _))
          show (if y ∉ part ∧ dash ++ y ∉ part then some (V.str y) else none) = none
          rw [if_neg fun z => z.1 m1]
        · rw [decide_eq_false m1]
          refine iteT ?_
          refine ⟨_, rfl, _, y, rfl, rfl, (by have := low_short ly; show 1 + y.length ≤ sizeLine; rw [sizeLine_eq]; omega), _, rfl, h, _, rfl, .inl (SqL.of (s3 _ _ (s12 _ _ hh))), rfl, flat_strs part, ?_⟩
          refine ⟨_, rfl, ?_⟩
          rw [inV_strs]
          by_cases m2 : dash ++ y ∈ part
          · rw [decide_eq_true m2]
            refine iteF (no H3 ?_ (same_refl _))
            show (if y ∉ part ∧ dash ++ y ∉ part then some (V.str y) else none) = none
            rw [if_neg fun z => z.2 m2]
          · rw [decide_eq_false m2]
            refine iteT ⟨_, rfl, yes _ H3 ?_ (same_refl _)⟩
            show (if y ∉ part ∧ dash ++ y ∉ part then some (V.str y) else none) = some (V.str y)
            rw [if_pos ⟨m1, m2⟩]
      · have h3' : H3 D = some (.lst ((freeOf nn part).map V.str)) := by
          rw [h3, keepF_all]
        clear h3
        have s13 := same_trans s12 s3
        dsimp only [tNil]
        refine ⟨_, _, rfl, ?_⟩
        have hp3 : H3 p = some (.lst l) := s13 _ _ hp
        have hs3 : H3 sA = some (.lst (refs (ps.filter fun r => breaksB part r.2))) := s3 _ _ (s2 _ _ hs)
        have hD5 := h3'
        have nsp : sA ≠ p := fun z => by
          rw [z, hp] at nsA
          cases nsA
        have nDp : D ≠ p := fun z => by
          rw [z, s12 _ _ hp] at nD
          cases nD
        have rowsF : ∀ {H4 : Hp}, RowsAt H4 ps → RowsAt H4 (ps.filter fun r => breaksB part r.2) := fun rw4 x hx => rw4 x (List.mem_filter.mp hx).1
        have rowG : ∀ r ∈ ps, r.2.all litS = true ∧ r.2.length < 30 := fun r hr' => by
          have g := gd r.2 (List.mem_map.mpr ⟨r, hr', rfl⟩)
          exact ⟨good_litS lo g.1, by omega⟩
        have none' : freeOf nn part = [] := List.eq_nil_of_length_eq_zero (Nat.le_zero.mp fr)
        have ret : ∀ (H5 : Hp) (l5 : List V), But p H3 H5 → H5 p = some (.lst l5) → PurseL (n + 1) l5 → (ps.filter fun r => breaksB part r.2) ≠ [] →
            tCall (spOne K) [] E0 (tCons (tVar 0) (tCons (tVar 4) tNil)) [some (.ref p), some (.ref a), some (.ref h), some (.bl late), some (.ref sA), some (.ref D), none] H5 Q := by
          intro H5 l5 bu5 hp5 hl5 ne
          have lf := List.length_filter_le (fun r : Rs => breaksB part r.2) ps
          refine ⟨_, rfl, _, rfl, p, sA, n + 1, l5, refs (ps.filter fun r => breaksB part r.2), rfl, hp5, hl5, by omega, SqL.of (bu5 _ _ hs3 nsp), nsp, by rw [refs, List.length_map]; exact List.length_pos_iff.mpr ne, by rw [refs, List.length_map]; omega, fun l6 x hl6 hx => ?_⟩
          obtain ⟨r, hr', rfl⟩ := List.mem_map.mp hx
          obtain ⟨hr1, hb⟩ := List.mem_filter.mp hr'
          have bu6 : But p H5 (upd H5 p (.lst l6)) := fun b o e ne => by rw [upd_ne ne]; exact e
          have hr0 := rw' r hr1
          have bu : But p H (upd H5 p (.lst l6)) := (But.of s13).trans (bu5.trans bu6)
          exact k _ l6 _ (.leaf r.2) bu upd_same (hl6.mono (by omega)) ⟨r.1, rfl, bu _ _ hr0 (ne_of hr0 hp (by intro z; cases z)), (rowG r hr1).1, (rowG r hr1).2⟩ ⟨List.mem_map.mpr ⟨r, hr1, rfl⟩, hb⟩ (Nat.zero_le _)
        refine ⟨_, rfl, (by show 0 ≤ sizeLine; decide), fun D5 nD5 => ?_⟩
        have s5 := same_new (o := .lst []) nD5
        refine ⟨.list (((ps.filter fun r => breaksB part r.2).map (·.2)).map encR), .list [], .lst (SqL.of (s5 _ _ hs3)) (dp_rows (rowsF (rows_same rw' (same_trans s13 s5)))), .lst (SqL.of upd_same) .nil, shaped_lst (fun x hx => ?_), by rfl, ?_⟩
        · obtain ⟨y, hy, rfl⟩ := List.mem_map.mp hx
          exact lits_okR (good_litS lo (gd y.2 (List.mem_map.mpr ⟨y, (List.mem_filter.mp hy).1, rfl⟩)).1)
        rw [PyData.eqv, show ([] : List PyData) = ([] : List (List Str)).map encR from rfl, eqv_rows]
        refine ⟨_, rfl, ?_⟩
        have free1 : (ps.filter fun r => breaksB part r.2) = [] → freeOf nn part ≠ [] := fun e z => by
          obtain ⟨r, hr', hb⟩ := full_breaks un (fun r hr' y hy => by
            obtain ⟨x, hx, rfl⟩ := List.mem_map.mp hr'
            exact (hnn.mem _).mpr (List.mem_map.mpr ⟨y, List.mem_flatMap.mpr ⟨x, hx, hy⟩, rfl⟩)) z
          obtain ⟨x, hx, rfl⟩ := List.mem_map.mp hr'
          have : x ∈ ps.filter fun r => breaksB part r.2 := List.mem_filter.mpr ⟨hx, hb⟩
          rw [e] at this
          cases this
        by_cases hB : (ps.filter fun r => breaksB part r.2) = []
        · exact absurd none' (free1 hB)
        · rw [decide_eq_false (fun z => hB (List.map_eq_nil_iff.mp z))]
          refine iteT ?_
          refine ⟨_, rfl, (by show 0 ≤ sizeLine; decide), fun D6 nD6 => ?_⟩
          have s6 := same_new (o := .lst []) nD6
          have bu6 := But.of (p := p) (same_trans s5 s6)
          have hp6 := same_trans s5 s6 _ _ hp3
          have lowF : ∀ y ∈ freeOf nn part, lowZ y = true := fun y hy => List.all_eq_true.mp lo y (lonn y (mem_free.mp hy).1)
          refine ⟨.list ((freeOf nn part).map .str), .list [], .lst (SqL.of (same_trans s5 s6 _ _ hD5)) (dp_strs _), .lst (SqL.of upd_same) .nil, ?_, by rfl, ?_⟩
          · exact shaped_strs _ lowF
          rw [PyData.eqv, show ([] : List PyData) = ([] : List Str).map .str from rfl, eqv_strs]
          refine ⟨_, rfl, ?_⟩
          by_cases hF : freeOf nn part = []
          · rw [decide_eq_true hF]
            refine iteT ?_
            refine iteT ?_
            exact ret _ l bu6 hp6 (hl.mono (by omega)) hB
          · exact absurd none' hF
    · refine ⟨_, pss_cons (ps_par (i := 4) (j := 5) (by rfl) sc.nd rfl rfl (by decide) rfl rfl (pa_cons (pe_call OB hr3 rfl mB kB bB .nil pass0 (pa_cons (pv 1) (pa_cons (pv 2) pa_nil)))
          (pa_cons (pe_lc (own := [("_law_name", 6)]) (g := gName 6) (tt := tAnd (tTest (tOp (rIn K true) (tVar 6) (tVar 2))) (tTest (tOp (rIn K true) (tOp rAddS (tC (.str dash)) (tVar 6)) (tVar 2)))) (te := tVar 6) rfl sc.nd (pi_list (pe_call ON hr2 rfl mN kN bN .nil pass0 (pa_cons (pv 1) pa_nil)))
            (blkOk_by (N := No) (sc := defScope sOwn) (by decide +kernel)) (fun _ _ _ _ _ => pg_name (i := 6) sc.nd rfl (Or.inl rfl)) (fun _ _ _ _ _ => pts_one (PW.pt (pw_and (pt_cmpR op_notIn_seq (pv 6) (pv 2) (by rfl)) (pw_and1 (pt_cmpR op_notIn_seq (pe_op op_add_str pe_str (pv 6)) (pv 2) (by rfl))))))
            (fun _ _ _ _ _ => pv 6)) pa_nil)) (by rfl))
        (pss_cons (ps_if (PW.pt (pw_and (pt_cmpR (op_neD hr.units) (pv 4) (pe_lst pa_nil) (nomark _)) (pw_and1 (PW.pt (pw_or (pt_cmpR (op_eqD hr.units) (pv 5) (pe_lst pa_nil) (nomark _)) (pw_or (pt_not (pt_val (pv 3))) (pw_or1 (pt_cmpR op_eq (pe_call OW hr2 rfl mW kW bW .nil pass0 (pa_cons (pv 0) (pa_cons pe_int pa_nil))) pe_int (nomark _)))))))))
            (pss_one (ps_ret (pe_call OO hr3 rfl mO kO bO .nil pass0 (pa_cons (pv 0) (pa_cons (pv 4) pa_nil))))) pss_nil)
        (pss_cons (ps_set (i := 6) sc.nd rfl (Or.inl rfl) (pe_call OO hr3 rfl mO kO bO .nil pass0 (pa_cons (pv 0) (pa_cons (pv 5) pa_nil))))
        (pss_one (ps_ret (pe_tup (pa_cons (pv 6)
          (pa_cons (pe_call OF hr rfl mE kE bE .nil pass0 (pa_cons (pv 0) (pa_cons (pv 1) (pa_cons (pe_op op_cat (pv 2) (pe_lst (pa_cons (pv 6) pa_nil))) (pa_cons (pv 3) pa_nil)))))
          (pa_cons (pe_call OF hr rfl mE kE bE .nil pass0 (pa_cons (pv 0) (pa_cons (pv 1) (pa_cons (pe_op op_cat (pv 2) (pe_lst (pa_cons (pe_op op_add_str pe_str (pv 6)) pa_nil))) (pa_cons (pv 3) pa_nil))))) pa_nil)))))))), ?_⟩
      refine ⟨_, rfl, _, rfl, a, h, ps, part, rfl, SqL.of ha, rw', by omega, fun r hr' => ?_, .inl (SqL.of hh), fun H1 sA s1 nsA hs => ?_⟩
      · have g := gd r.2 (List.mem_map.mpr ⟨r, hr', rfl⟩)
        have lt := good_litS lo g.1
        exact ⟨fun y hy => ⟨lit_pos (List.all_eq_true.mp lt y hy), lit_short (List.all_eq_true.mp lt y hy)⟩, by omega⟩
      have covs : ∀ r ∈ ps, ∀ y ∈ r.2, bareS y ∈ ns := fun r hr' y hy => by
        obtain ⟨z, hz, sg⟩ := (gd r.2 (List.mem_map.mpr ⟨r, hr', rfl⟩)).1.lit y hy
        rw [sg.bare (List.all_eq_true.mp lo z hz)]
        exact hz
      have toNames : ∀ (Q' : VK), (∀ H2 q, Same H1 H2 → H2 q = some (.lst (nn.map V.str)) → H1 q = none → Q' (.ref q) H2) → tCall (spNames K) [] E0 (tCons (tVar 1) tNil) (L2.start No [.ref p, .ref a, .ref h, .bl late]) H1 Q' := by
        intro Q' kk
        refine ⟨_, rfl, a, ps, rfl, SqL.of (s1 _ _ ha), rows_same rw' s1, fun r hr' => ?_, ⟨ns, by omega, fun y hy => ?_⟩, fun H2 q nn' s2 nq hq nm => ?_⟩
        · have lt := good_litS lo (gd r.2 (List.mem_map.mpr ⟨r, hr', rfl⟩)).1
          exact fun y hy => ⟨lit_pos (List.all_eq_true.mp lt y hy), lit_short (List.all_eq_true.mp lt y hy)⟩
        · obtain ⟨r, hr', hy'⟩ := List.mem_flatMap.mp hy
          exact covs r hr' y hy'
        · have e : nn' = nn := pw_uniq (asc_pw (asc_of_sorted nm.up nm.nd)) (asc_pw (asc_of_sorted hnn.up hnn.nd)) fun y => (nm.mem y).trans (hnn.mem y).symm
          exact kk H2 q s2 (e ▸ hq) nq
      dsimp only [tCons]
      refine toNames _ fun H2 q s2 hq nq => ?_
      refine ⟨q, rfl, ⟨_, SqL.of hq⟩, fun D nD => ?_⟩
      have lnn : nn.length ≤ 6 := Nat.le_trans (nd_fewG (few := ns) hnn.nd fun y hy => by
        obtain ⟨z, hz, rfl⟩ := List.mem_map.mp ((hnn.mem y).mp hy)
        obtain ⟨r, hr', hy'⟩ := List.mem_flatMap.mp hz
        exact covs r hr' z hy') n6
      have lonn : ∀ y ∈ nn, y ∈ ns := fun y hy => by
        obtain ⟨z, hz, rfl⟩ := List.mem_map.mp ((hnn.mem y).mp hy)
        obtain ⟨r, hr', hy'⟩ := List.mem_flatMap.mp hz
        exact covs r hr' z hy'
      have s12 := same_trans s1 s2
      refine lstD (keepF part) (SqL.of hq) (by rw [List.length_map, sizeLine_eq]; omega) nD (fun x H3 Ψ Θ hx s3 yes no => ?_) (fun H3 s3 h3 => ?_)
      · obtain ⟨y, hy, rfl⟩ := List.mem_map.mp hx
        have ly := List.all_eq_true.mp lo y (lonn y hy)
        refine ⟨rfl, ?_⟩
        refine ⟨_, rfl, _, rfl, h, _, rfl, .inl (SqL.of (s3 _ _ (s12 _ _ hh))), rfl, flat_strs part, ?_⟩
        refine ⟨_, rfl, ?_⟩
        rw [inV_strs]
        by_cases m1 : y ∈ part
        · rw [decide_eq_true m1]
          refine iteF ?_
          refine iteF (no H3 ?_ (same_refl _))
          show (if y ∉ part ∧ dash ++ y ∉ part then some (V.str y) else none) = none
          rw [if_neg fun z => z.1 m1]
        · rw [decide_eq_false m1]
          refine iteT ?_
          refine ⟨_, rfl, _, y, rfl, rfl, (by have := low_short ly; show 1 + y.length ≤ sizeLine; rw [sizeLine_eq]; omega), _, rfl, h, _, rfl, .inl (SqL.of (s3 _ _ (s12 _ _ hh))), rfl, flat_strs part, ?_⟩
          refine ⟨_, rfl, ?_⟩
          rw [inV_strs]
          by_cases m2 : dash ++ y ∈ part
          · rw [decide_eq_true m2]
            refine iteF (no H3 ?_ (same_refl _))
            show (if y ∉ part ∧ dash ++ y ∉ part then some (V.str y) else none) = none
            rw [if_neg fun z => z.2 m2]
          · rw [decide_eq_false m2]
            refine iteT ⟨_, rfl, yes _ H3 ?_ (same_refl _)⟩
            show (if y ∉ part ∧ dash ++ y ∉ part then some (V.str y) else none) = some (V.str y)
            rw [if_pos ⟨m1, m2⟩]
      · have h3' : H3 D = some (.lst ((freeOf nn part).map V.str)) := by
          rw [h3, keepF_all]
        clear h3
        have s13 := same_trans s12 s3
        dsimp only [tNil]
        refine ⟨_, _, rfl, ?_⟩
        have hp3 : H3 p = some (.lst l) := s13 _ _ hp
        have hs3 : H3 sA = some (.lst (refs (ps.filter fun r => breaksB part r.2))) := s3 _ _ (s2 _ _ hs)
        have hD5 := h3'
        have nsp : sA ≠ p := fun z => by
          rw [z, hp] at nsA
          cases nsA
        have nDp : D ≠ p := fun z => by
          rw [z, s12 _ _ hp] at nD
          cases nD
        have rowsF : ∀ {H4 : Hp}, RowsAt H4 ps → RowsAt H4 (ps.filter fun r => breaksB part r.2) := fun rw4 x hx => rw4 x (List.mem_filter.mp hx).1
        have rowG : ∀ r ∈ ps, r.2.all litS = true ∧ r.2.length < 30 := fun r hr' => by
          have g := gd r.2 (List.mem_map.mpr ⟨r, hr', rfl⟩)
          exact ⟨good_litS lo g.1, by omega⟩
        have p2 : (1 : Int) ≤ 2 ^ d' := by
          have : 0 < (2 : Nat) ^ d' := Nat.two_pow_pos d'
          exact_mod_cast this
        have e2 : (4 : Int) * 2 ^ (d' + 1) = 4 * 2 ^ d' + 4 * 2 ^ d' := by
          rw [Int.pow_succ]
          omega
        have ret : ∀ (H5 : Hp) (l5 : List V), But p H3 H5 → H5 p = some (.lst l5) → PurseL (n + 1) l5 → (ps.filter fun r => breaksB part r.2) ≠ [] →
            tCall (spOne K) [] E0 (tCons (tVar 0) (tCons (tVar 4) tNil)) [some (.ref p), some (.ref a), some (.ref h), some (.bl late), some (.ref sA), some (.ref D), none] H5 Q := by
          intro H5 l5 bu5 hp5 hl5 ne
          have lf := List.length_filter_le (fun r : Rs => breaksB part r.2) ps
          refine ⟨_, rfl, _, rfl, p, sA, n + 1, l5, refs (ps.filter fun r => breaksB part r.2), rfl, hp5, hl5, by omega, SqL.of (bu5 _ _ hs3 nsp), nsp, by rw [refs, List.length_map]; exact List.length_pos_iff.mpr ne, by rw [refs, List.length_map]; omega, fun l6 x hl6 hx => ?_⟩
          obtain ⟨r, hr', rfl⟩ := List.mem_map.mp hx
          obtain ⟨hr1, hb⟩ := List.mem_filter.mp hr'
          have bu6 : But p H5 (upd H5 p (.lst l6)) := fun b o e ne => by rw [upd_ne ne]; exact e
          have hr0 := rw' r hr1
          have bu : But p H (upd H5 p (.lst l6)) := (But.of s13).trans (bu5.trans bu6)
          exact k _ l6 _ (.leaf r.2) bu upd_same (hl6.mono (by omega)) ⟨r.1, rfl, bu _ _ hr0 (ne_of hr0 hp (by intro z; cases z)), (rowG r hr1).1, (rowG r hr1).2⟩ ⟨List.mem_map.mpr ⟨r, hr1, rfl⟩, hb⟩ (Nat.zero_le _)
        have rest : ∀ (H5 : Hp) (l5 : List V), But p H3 H5 → H5 p = some (.lst l5) → PurseL (n + 1) l5 → freeOf nn part ≠ [] →
            tSeq (tAsg (tCall (spOne K) [] E0 (tCons (tVar 0) (tCons (tVar 5) tNil))) (gName 6)) (tRet (tTup (tCons (tVar 6) (tCons (tCall (spOwn K ps nn d') [] E0 (tCons (tVar 0) (tCons (tVar 1) (tCons (tOp rCat (tVar 2) (tLst (tCons (tVar 6) tNil))) (tCons (tVar 3) tNil))))) (tCons (tCall (spOwn K ps nn d') [] E0 (tCons (tVar 0) (tCons (tVar 1) (tCons (tOp rCat (tVar 2) (tLst (tCons (tOp rAddS (tC (.str dash)) (tVar 6)) tNil))) (tCons (tVar 3) tNil))))) tNil))))) { nx := fun x H' => Q V.non H', rt := Q } [some (.ref p), some (.ref a), some (.ref h), some (.bl late), some (.ref sA), some (.ref D), none] H5 := by
          intro H5 l5 bu5 hp5 hl5 ne
          have lff : (freeOf nn part).length ≤ nn.length := List.length_filter_le _ _
          refine ⟨_, rfl, _, rfl, p, D, n + 1, l5, (freeOf nn part).map V.str, rfl, hp5, hl5, by omega, SqL.of (bu5 _ _ hD5 nDp), nDp, by rw [List.length_map]; exact List.length_pos_iff.mpr ne, by rw [List.length_map]; omega, fun l6 x hl6 hx => ?_⟩
          obtain ⟨nm, hnm, rfl⟩ := List.mem_map.mp hx
          obtain ⟨nmn, nm1, nm2⟩ := mem_free.mp hnm
          have lnm := List.all_eq_true.mp lo nm (lonn nm nmn)
          have eo : oppS nm = dash ++ nm := opp_pos (low_neg lnm)
          have bu6 : But p H (upd H5 p (.lst l6)) := (But.of s13).trans (bu5.trans fun b o e ne => by rw [upd_ne ne]; exact e)
          have hp6 : (upd H5 p (.lst l6)) p = some (.lst l6) := upd_same
          generalize upd H5 p (.lst l6) = H6 at bu6 hp6
          have fr1 := free_less hnm (c := nm) (.inl rfl)
          have fr2 := free_less hnm (c := dash ++ nm) (.inr rfl)
          refine ⟨_, rfl, _, rfl, _, rfl, _, rfl, _, rfl, (by show 1 ≤ sizeLine; decide), fun t7 nt7 => ?_⟩
          have s7 := same_new (o := .lst [V.str nm]) nt7
          have lenp : (part.map V.str).length + 1 ≤ sizeLine := by rw [List.length_map, sizeLine_eq]; omega
          refine ⟨h, t7, _, _, rfl, rfl, s7 _ _ (bu6 _ _ hh nhp), upd_same, lenp, fun h8 nh8 => ?_⟩
          have s8 := same_trans s7 (same_new (o := .lst (part.map V.str ++ [V.str nm])) nh8)
          have hp8 := s8 _ _ hp6
          refine ⟨_, rfl, p, a, h8, late, n + 2, l6, part ++ [nm], rfl, hp8, hl6.mono (by omega), by omega, s8 _ _ (bu6 _ _ ha nap), nap, rows_same (rows_but rw' bu6 hp) s8, by rw [upd_same, List.map_append] <;> rfl, fun z => ?_, by omega, by omega, by rw [List.length_append, List.length_singleton]; omega, fun y hy => ?_, fun H9 l9 v t bu9 hp9 hl9 ht9 gt9 dep9 => ?_⟩
          · rw [z, s7 _ _ hp6] at nh8
            cases nh8
          · rcases List.mem_append.mp hy with hy | hy
            · exact lp y hy
            · rw [List.mem_singleton.mp hy]
              exact low_lit lnm
          have bu69 : But p H H9 := bu6.trans ((But.of s8).trans bu9)
          refine ⟨_, rfl, _, rfl, _, rfl, _, rfl, dash, nm, rfl, rfl, (by have := low_short lnm; show 1 + nm.length ≤ sizeLine; rw [sizeLine_eq]; omega), (by show 1 ≤ sizeLine; decide), fun t10 nt10 => ?_⟩
          have s10 := same_new (o := .lst [V.str (dash ++ nm)]) nt10
          refine ⟨h, t10, _, _, rfl, rfl, s10 _ _ (bu69 _ _ hh nhp), upd_same, lenp, fun h11 nh11 => ?_⟩
          have s11 := same_trans s10 (same_new (o := .lst (part.map V.str ++ [V.str (dash ++ nm)])) nh11)
          have hp11 := s11 _ _ hp9
          refine ⟨_, rfl, p, a, h11, late, n + 2 + (4 * 2 ^ d' - 2), l9, part ++ [dash ++ nm], rfl, hp11, hl9, by omega, s11 _ _ (bu69 _ _ ha nap), nap, rows_same (rows_but rw' bu69 hp) s11, by rw [upd_same, List.map_append] <;> rfl, fun z => ?_, by omega, by omega, by rw [List.length_append, List.length_singleton]; omega, fun y hy => ?_, fun H12 l12 v2 t2 bu12 hp12 hl12 ht12 gt12 dep12 => ?_⟩
          · rw [z, s10 _ _ hp9] at nh11
            cases nh11
          · rcases List.mem_append.mp hy with hy | hy
            · exact lp y hy
            · rw [List.mem_singleton.mp hy]
              exact Sg.lit (.inr rfl) lnm
          have bu9_12 : But p H9 H12 := (But.of s11).trans bu12
          refine ⟨(by show 3 ≤ sizeLine; decide), fun z nz => ?_⟩
          have sz := same_new (o := .tup [V.str nm, v, v2]) nz
          exact k _ l12 (.ref z) (.node nm t t2) (bu69.trans (bu9_12.trans (.of sz))) (sz _ _ hp12) (hl12.mono (by omega)) ⟨z, v, v2, rfl, upd_same, lnm, (ht9.but bu9_12 hp9).same sz, ht12.same sz⟩
            ⟨nmn, nm1, by rw [eo]; exact nm2, gt9, by rw [eo]; exact gt12⟩ (by show max t.dep t2.dep + 1 ≤ d' + 1; omega)
        refine ⟨_, rfl, (by show 0 ≤ sizeLine; decide), fun D5 nD5 => ?_⟩
        have s5 := same_new (o := .lst []) nD5
        refine ⟨.list (((ps.filter fun r => breaksB part r.2).map (·.2)).map encR), .list [], .lst (SqL.of (s5 _ _ hs3)) (dp_rows (rowsF (rows_same rw' (same_trans s13 s5)))), .lst (SqL.of upd_same) .nil, shaped_lst (fun x hx => ?_), by rfl, ?_⟩
        · obtain ⟨y, hy, rfl⟩ := List.mem_map.mp hx
          exact lits_okR (good_litS lo (gd y.2 (List.mem_map.mpr ⟨y, (List.mem_filter.mp hy).1, rfl⟩)).1)
        rw [PyData.eqv, show ([] : List PyData) = ([] : List (List Str)).map encR from rfl, eqv_rows]
        refine ⟨_, rfl, ?_⟩
        have free1 : (ps.filter fun r => breaksB part r.2) = [] → freeOf nn part ≠ [] := fun e z => by
          obtain ⟨r, hr', hb⟩ := full_breaks un (fun r hr' y hy => by
            obtain ⟨x, hx, rfl⟩ := List.mem_map.mp hr'
            exact (hnn.mem _).mpr (List.mem_map.mpr ⟨y, List.mem_flatMap.mpr ⟨x, hx, hy⟩, rfl⟩)) z
          obtain ⟨x, hx, rfl⟩ := List.mem_map.mp hr'
          have : x ∈ ps.filter fun r => breaksB part r.2 := List.mem_filter.mpr ⟨hx, hb⟩
          rw [e] at this
          cases this
        by_cases hB : (ps.filter fun r => breaksB part r.2) = []
        · rw [hB]
          refine iteF ?_
          refine iteF ?_
          exact rest _ l (.of s5) (s5 _ _ hp3) (hl.mono (by omega)) (free1 hB)
        · rw [decide_eq_false (fun z => hB (List.map_eq_nil_iff.mp z))]
          refine iteT ?_
          refine ⟨_, rfl, (by show 0 ≤ sizeLine; decide), fun D6 nD6 => ?_⟩
          have s6 := same_new (o := .lst []) nD6
          have bu6 := But.of (p := p) (same_trans s5 s6)
          have hp6 := same_trans s5 s6 _ _ hp3
          have lowF : ∀ y ∈ freeOf nn part, lowZ y = true := fun y hy => List.all_eq_true.mp lo y (lonn y (mem_free.mp hy).1)
          refine ⟨.list ((freeOf nn part).map .str), .list [], .lst (SqL.of (same_trans s5 s6 _ _ hD5)) (dp_strs _), .lst (SqL.of upd_same) .nil, ?_, by rfl, ?_⟩
          · exact shaped_strs _ lowF
          rw [PyData.eqv, show ([] : List PyData) = ([] : List Str).map .str from rfl, eqv_strs]
          refine ⟨_, rfl, ?_⟩
          by_cases hF : freeOf nn part = []
          · rw [decide_eq_true hF]
            refine iteT ?_
            refine iteT ?_
            exact ret _ l bu6 hp6 (hl.mono (by omega)) hB
          · rw [decide_eq_false hF]
            refine iteF ?_
            refine ⟨_, rfl, late, rfl, ?_⟩
            cases late with
            | false =>
              refine iteT ?_
              refine iteT ?_
              exact ret _ l bu6 hp6 (hl.mono (by omega)) hB
            | true =>
              refine iteF ?_
              refine ⟨_, rfl, p, 2, n, l, rfl, hp6, hl, by omega, by decide, by decide, fun l7 t hl7 t0 t1 => ?_⟩
              have bu7 : But p H3 (upd (upd (upd H3 D5 (.lst [])) D6 (.lst [])) p (.lst l7)) := fun b o e ne => by rw [upd_ne ne]; exact bu6 b o e ne
              refine ⟨rfl, _, rfl, ?_⟩
              refine ite2 (fun c => ?_) (fun c => ?_)
              · exact ret _ l7 bu7 upd_same hl7 hB
              · exact rest _ l7 bu7 upd_same hl7 hF
end
end My
end

section
set_option Elab.async false
set_option linter.all false
set_option maxRecDepth 100000
set_option maxHeartbeats 4000000
namespace My
local macro_rules | `(tactic| walk_at "go") => `(tactic| (repeat (first
  | (refine ⟨_, rfl, ?_⟩)
  | (refine ⟨_, _, rfl, rfl, ?_⟩)
  | (refine ⟨_, _, rfl, ?_⟩)
  | (refine ⟨rfl, ?_⟩)
  | (refine Or.inl ⟨_, rfl, ?_⟩)
  | (refine ⟨_, _, _, _, rfl, rfl, L2.SqL.of (by first | assumption | exact L2.upd_same), rfl, ?_⟩)
  | (refine ⟨_, _, _, _, rfl, rfl, (by first | assumption | exact L2.upd_same), rfl, ?_⟩)
  | (refine And.intro (by first | omega | decide | (unfold L2.CPow; decide) | (unfold L2.CMul; omega) | (unfold L2.CDiv; omega)) ?_))))
open PySem PySem.Spec PyProof.Rows L2 TL MyF MyS MyW RZ MyR MyT MyQ MyV MyZ
theorem ex_listL {K : PySem.W.Frag} {H : Hp} {a b : Addr} {xs ys : List V} {d : Nat} (h1 : SqL K H a xs) (h2 : SqL K H b ys) (e : xs.length = ys.length) (few : xs.length < 1000) (k : ∀ (i : Nat) (u v : V), xs[i]? = some u → ys[i]? = some v → Ex K H d u v) : Ex K H (d + 1) (.ref a) (.ref b) :=
  .inr (.inl ⟨a, b, xs, ys, rfl, rfl, .inl ⟨h1, h2⟩, e, few, k⟩)
theorem ex_strT {K : PySem.W.Frag} {H : Hp} {a b : Addr} {xs : List Str} {d : Nat} (h1 : SqT K H a (xs.map V.str)) (h2 : SqT K H b (xs.map V.str)) (few : xs.length < 1000) : Ex K H (d + 1) (.ref a) (.ref b) :=
  .inr (.inl ⟨a, b, _, _, rfl, rfl, .inr ⟨h1, h2⟩, rfl, by rw [List.length_map]; exact few, fun i u v hu hv => by
    rw [hu] at hv
    cases hv
    obtain ⟨z, _, rfl⟩ := List.mem_map.mp (List.mem_of_getElem? hu)
    exact Ex.leaf (.str z) d⟩)
theorem ex_strL {K : PySem.W.Frag} {H : Hp} {a b : Addr} {xs : List Str} {d : Nat} (h1 : SqL K H a (xs.map V.str)) (h2 : SqL K H b (xs.map V.str)) (few : xs.length < 1000) : Ex K H (d + 1) (.ref a) (.ref b) :=
  ex_listL h1 h2 rfl (by rw [List.length_map]; exact few) fun i u v hu hv => by
    rw [hu] at hv
    cases hv
    obtain ⟨z, _, rfl⟩ := List.mem_map.mp (List.mem_of_getElem? hu)
    exact Ex.leaf (.str z) d
theorem ex_intL {K : PySem.W.Frag} {H : Hp} {a b : Addr} {xs : List Int} {d : Nat} (h1 : SqL K H a (xs.map V.int)) (h2 : SqL K H b (xs.map V.int)) (few : xs.length < 1000) : Ex K H (d + 1) (.ref a) (.ref b) :=
  ex_listL h1 h2 rfl (by rw [List.length_map]; exact few) fun i u v hu hv => by
    rw [hu] at hv
    cases hv
    obtain ⟨z, _, rfl⟩ := List.mem_map.mp (List.mem_of_getElem? hu)
    exact Ex.leaf (.int z) d
theorem ex_rowsL {K : PySem.W.Frag} {H : Hp} {a b : Addr} {ps qs : List Rs} {d : Nat} (h1 : SqL K H a (refs ps)) (h2 : SqL K H b (refs qs)) (r1 : RowsAt H ps) (r2 : RowsAt H qs) (e : ps.map (·.2) = qs.map (·.2)) (few : ps.length < 1000) (sh : ∀ p ∈ ps, p.2.length < 1000) : Ex K H (d + 2) (.ref a) (.ref b) :=
  ex_listL h1 h2 (by
      have := congrArg List.length e
      rw [List.length_map, List.length_map] at this
      rw [refs, refs, List.length_map, List.length_map]
      exact this) (by rw [refs, List.length_map]; exact few) fun i u v hu hv => by
    rw [refs, List.getElem?_map] at hu hv
    obtain ⟨p, hp, rfl⟩ := Option.map_eq_some_iff.mp hu
    obtain ⟨q, hq, rfl⟩ := Option.map_eq_some_iff.mp hv
    have e2 : p.2 = q.2 := by
      have e3 := congrArg (fun l => l[i]?) e
      simp only [List.getElem?_map] at e3
      rw [hp, hq] at e3
      injection e3
    have hp2 := r1 p (List.mem_of_getElem? hp)
    have hq2 := r2 q (List.mem_of_getElem? hq)
    rw [← e2] at hq2
    exact ex_strT (SqT.of hp2) (SqT.of hq2) (sh p (List.mem_of_getElem? hp))
theorem ex_2 {K : PySem.W.Frag} {H : Hp} {p q : Addr} {a b c e : V} {d : Nat} (h1 : H p = some (.lst [a, b])) (h2 : H q = some (.lst [c, e])) (k1 : Ex K H d a c) (k2 : Ex K H d b e) : Ex K H (d + 1) (.ref p) (.ref q) :=
  ex_listL (SqL.of h1) (SqL.of h2) rfl (by show 2 < 1000; decide) fun i u v hu hv => by
    rcases i with _ | _ | i
    · cases hu; cases hv; exact k1
    · cases hu; cases hv; exact k2
    · cases hu
theorem ex_3' {K : PySem.W.Frag} {H : Hp} {p q : Addr} {a b c x y z : V} {d : Nat} (h1 : H p = some (.lst [a, b, c])) (h2 : H q = some (.lst [x, y, z])) (k1 : Ex K H d a x) (k2 : Ex K H d b y) (k3 : Ex K H d c z) : Ex K H (d + 1) (.ref p) (.ref q) :=
  ex_listL (SqL.of h1) (SqL.of h2) rfl (by show 3 < 1000; decide) fun i u v hu hv => by
    rcases i with _ | _ | _ | i
    · cases hu; cases hv; exact k1
    · cases hu; cases hv; exact k2
    · cases hu; cases hv; exact k3
    · cases hu
/-- what is known of a drawn book: its rows ps, its names nn, the names c that it was drawn from -/
structure Bk (ps : List Rs) (nn c : List Str) : Prop where
  nm : NamesOf nn ps
  un : Unfit (ps.map (·.2))
  gd : GoodRs c (ps.map (·.2))
  lo : c.all lowZ = true
  cnd : c.Nodup
  n6 : c.length ≤ 6
  few : ps.length ≤ 60
  up : UpNd (ps.map (·.2))
theorem Bk.good {ps : List Rs} {nn c : List Str} (h : Bk ps nn c) {r : Rs} (hr : r ∈ ps) : Good c r.2 ∧ 1 ≤ r.2.length ∧ r.2.length ≤ 6 := h.gd r.2 (List.mem_map.mpr ⟨r, hr, rfl⟩)
theorem Bk.lit {ps : List Rs} {nn c : List Str} (h : Bk ps nn c) {r : Rs} (hr : r ∈ ps) : r.2.all litS = true := good_litS h.lo (h.good hr).1
theorem Bk.sub {ps : List Rs} {nn c : List Str} (h : Bk ps nn c) {y : Str} (hy : y ∈ lits ps) : bareS y ∈ c := by
  obtain ⟨r, hr, hy2⟩ := List.mem_flatMap.mp hy
  obtain ⟨s, hs, g⟩ := (h.good hr).1.lit y hy2
  rw [g.bare (List.all_eq_true.mp h.lo s hs)]
  exact hs
theorem Bk.nsub {ps : List Rs} {nn c : List Str} (h : Bk ps nn c) {y : Str} (hy : y ∈ nn) : y ∈ c := by
  obtain ⟨z, hz, rfl⟩ := List.mem_map.mp ((h.nm.mem y).mp hy)
  exact h.sub hz
theorem Bk.nlow {ps : List Rs} {nn c : List Str} (h : Bk ps nn c) : nn.all lowZ = true := List.all_eq_true.mpr fun y hy => List.all_eq_true.mp h.lo y (h.nsub hy)
theorem Bk.nlen {ps : List Rs} {nn c : List Str} (h : Bk ps nn c) : nn.length ≤ 6 := Nat.le_trans (nd_few h.nm.nd fun y hy => h.nsub hy) h.n6
theorem Bk.uni {ps : List Rs} {nn c : List Str} (h : Bk ps nn c) : MyR.uni (ps.map (·.2)) = ps.map (·.2) := uni_id h.up.up h.up.nd
theorem names_one {ps : List Rs} {ns nn : List Str} (h : NamesOf ns ps) (k : NamesOf nn ps) : ns = nn :=
  InOrd.uniq (ys := ns) (zs := nn) ⟨h.nd, h.up, fun _ => Iff.rfl, Nat.le_refl _⟩ ⟨k.nd, k.up, fun _ => Iff.rfl, Nat.le_refl _⟩ fun y => (h.mem y).trans (k.mem y).symm
section
variable {P : Program} {w : World} {K : PySem.W.Frag} {mg : Str → Option Value} {base : Heap}
/-! ### _law_book_stays -/
abbrev sStays : Stmt := top 65
def spStays (K : PySem.W.Frag) (C M : Addr) : Sp := fun vs H Q _ => ∃ (b a : Addr) (ps : List Rs) (nn c : List Str), vs = [.ref b, .ref a] ∧ Bk ps nn c ∧ BookAt C M H b (ps.map (·.2)) nn ∧ H a = some (.lst (refs ps)) ∧ RowsAt H ps ∧ ∀ H', Same H H' → Q (.bl true) H'
theorem sc_stays : FnScope ["_law_made_here", "_law_rows_here"] ["_law_made_here", "_law_rows_here"] (defScope sStays) := ⟨rfl, rfl, rfl, by decide +kernel, rfl, by decide +kernel, by decide +kernel⟩
theorem ok_stays {f C M : Addr} {fd : FuncData} (G : Fun K "_law_book_stays" "_law_book_stays" sStays f fd) (T : TxtB K mg C) (MC : MT P w K mg base C "clauses" 1 ["self"] (spBCl C M)) (MV : MT P w K mg base C "variables" 1 ["self"] (spBVar C M)) (ME : MT P w K mg base C "__eq__" 1 ["self", "other"] (spEq (EqB C M)))
    (FE : FN P w K mg base "_law_exact" 4 ["_law_mine", "_law_theirs"] (spExact K 3)) (FN' : FN P w K mg base "_law_names" 2 ["_law_rows_here"] (spNames K)) (FM : FN P w K mg base "_law_made" 7 ["_law_rows_here"] (spMade K C M)) :
    FnOk P w K mg base CX0 8 f fd ["_law_made_here", "_law_rows_here"] (spStays K C M) := by
  have sc := sc_stays
  obtain ⟨fC, dC, mC, OC, bC⟩ := MC
  obtain ⟨fV, dV, mV, OV, bV⟩ := MV
  obtain ⟨fQ, dQ, mQ, OQ, bQ⟩ := ME
  obtain ⟨fE, dE, mE, kE, OE, bE⟩ := FE
  obtain ⟨fN, dN, mN, kN, ON, bN⟩ := FN'
  obtain ⟨fM, dM, mM, kM, OM, bM⟩ := FM
  refine G.ok sc (fun vs H Q E h => ?_) (fun cdv A outer s H vs Q E hr h => ?_)
  · obtain ⟨_, _, _, _, _, rfl, _⟩ := h
    rfl
  · obtain ⟨b, a, ps, nn, c, rfl, bk, hb, ha, hw, k⟩ := h
    have hr1 : Room 1 _ := hr.mono (by decide)
    have hr2 : Room 2 _ := hr.mono (by decide)
    have hr4 : Room 4 _ := hr.mono (by decide)
    have hr7 : Room 7 _ := hr.mono (by decide)
    refine ⟨_, pss_one (ps_ret (pe_and (pe_call OE hr4 rfl mE kE bE .nil pass0 (pa_cons (pe_lst (pa_cons (pe_meth0 (pv 0) T.cl mC OC hr1 bC .nil pass0) (pa_cons (pe_meth0 (pv 0) T.cl mV OV hr1 bV .nil pass0) pa_nil)))
        (pa_cons (pe_lst (pa_cons (pv 1) (pa_cons (pe_call ON hr2 rfl mN kN bN .nil pass0 (pa_cons (pv 1) pa_nil)) pa_nil))) pa_nil)))
      (pe_one (pe_cmpR (op_eqG (rcG_ins (C := C) (R := EqB C M) OQ mQ.at_ mQ.fn bQ pass0) hr1) (pv 0) (pe_call OM hr7 rfl mM kM bM .nil pass0 (pa_cons (pv 1) pa_nil)) (nomark _))))), ?_⟩
    have few : ps.length < 1000 := Nat.lt_of_le_of_lt bk.few (by decide)
    have n6 := bk.nlen
    obtain ⟨dx, tr, tn, mv, tv, i1⟩ := hb.ins
    refine ⟨_, rfl, b, dx, _, rfl, i1, fb_none _ _ _ _ (by decide +kernel) (by decide +kernel) (by decide +kernel) (by decide +kernel), b, _, nn, rfl, hb, fun H1 p s1 hp => ?_⟩
    obtain ⟨np, qs, hp1, hq1, eq1⟩ := hp
    have hb1 := hb.same s1
    refine ⟨_, rfl, b, dx, _, rfl, s1 _ _ i1, fb_none _ _ _ _ (by decide +kernel) (by decide +kernel) (by decide +kernel) (by decide +kernel), b, _, nn, rfl, hb1, fun H2 v s2 nv hv => ?_⟩
    have s12 := same_trans s1 s2
    refine ⟨(by show 2 ≤ sizeLine; decide), fun p3 n3 => ?_⟩
    have s3 := same_new (o := .lst [V.ref p, V.ref v]) n3
    have s13 := same_trans s12 s3
    refine ⟨_, rfl, _, rfl, a, ps, rfl, SqL.of (s13 _ _ ha), rows_same hw s13, fun r hr' => lit_litL (bk.lit hr'), ⟨c, Nat.lt_of_le_of_lt bk.n6 (by decide), fun y hy => bk.sub hy⟩, fun H4 q ns s4 nq hq nm => ?_⟩
    have en := names_one nm bk.nm
    subst en
    have s14 := same_trans s13 s4
    refine ⟨(by show 2 ≤ sizeLine; decide), fun p5 n5 => ?_⟩
    have s5 := same_new (o := .lst [V.ref a, V.ref q]) n5
    have s15 := same_trans s14 s5
    have s25 := same_trans s2 (same_trans s3 (same_trans s4 s5))
    have s35 := same_trans s3 (same_trans s4 s5)
    have s45 := same_trans s4 s5
    refine ⟨_, _, rfl, ex_2 (s45 _ _ upd_same) upd_same (ex_rowsL (SqL.of (s25 _ _ hp1)) (SqL.of (s15 _ _ ha)) (rows_same hq1 s25) (rows_same hw s15) eq1 (by
        have := congrArg List.length eq1
        rw [List.length_map, List.length_map] at this
        omega) fun x hx => ?_) (ex_strL (SqL.of (s35 _ _ hv)) (SqL.of (s5 _ _ hq)) (by omega)), fun H6 s6 => ?_⟩
    · obtain ⟨y, hy, e⟩ := List.mem_map.mp (show x.2 ∈ ps.map (·.2) from eq1 ▸ List.mem_map.mpr ⟨x, hx, rfl⟩)
      have := (bk.good hy).2.2
      rw [← e]
      omega
    have s16 := same_trans s15 s6
    refine ⟨true, rfl, iteT ?_⟩
    refine ⟨_, rfl, _, rfl, a, ps, rfl, SqL.of (s16 _ _ ha), rows_same hw s16, fun r hr' => ⟨(bk.good hr').1.cl bk.lo, Nat.lt_of_le_of_lt (bk.good hr').2.2 (by decide)⟩, Nat.lt_of_le_of_lt bk.few (by decide), ⟨c, Nat.le_trans bk.n6 (by decide), fun y hy => bk.sub hy⟩, fun H7 b2 ns2 s7 hb2 nm2 => ?_⟩
    have s17 := same_trans s16 s7
    have hb7 := hb.same s17
    obtain ⟨dx2, tr2, tn2, mv2, tv2, i2⟩ := hb2.ins
    rw [bk.uni] at hb2
    refine ⟨⟨b, b2, _, _, _, _, rfl, rfl, s17 _ _ i1, i2, _, _, _, hb7, hb2, fun r hr' => ?_⟩, fun H8 s8 => k H8 (same_trans s17 s8)⟩
    obtain ⟨x, hx, rfl⟩ := List.mem_map.mp hr'
    exact lits_okR (bk.lit hx)
end
end My
end

section
set_option Elab.async false
set_option linter.all false
set_option maxRecDepth 100000
set_option maxHeartbeats 4000000
namespace My
local macro_rules | `(tactic| walk_at "go") => `(tactic| (repeat (first
  | (refine ⟨_, rfl, ?_⟩)
  | (refine ⟨_, _, rfl, rfl, ?_⟩)
  | (refine ⟨_, _, rfl, ?_⟩)
  | (refine ⟨rfl, ?_⟩)
  | (refine Or.inl ⟨_, rfl, ?_⟩)
  | (refine ⟨_, _, _, _, rfl, rfl, L2.SqL.of (by first | assumption | exact L2.upd_same), rfl, ?_⟩)
  | (refine ⟨_, _, _, _, rfl, rfl, (by first | assumption | exact L2.upd_same), rfl, ?_⟩)
  | (refine And.intro (by first | omega | decide | (unfold L2.CPow; decide) | (unfold L2.CMul; omega) | (unfold L2.CDiv; omega)) ?_))))
open PySem PySem.Spec PyProof.Rows L2 TL MyF MyS MyW RZ MyR MyT MyQ MyV MyZ
/-! ### the mathematics of whole ways -/
/-- every name is set, one way -/
def Full (nn ys : List Str) : Prop := ∀ n ∈ nn, (n ∈ ys ∧ oppS n ∉ ys) ∨ (n ∉ ys ∧ oppS n ∈ ys)
theorem full_of {nn ys : List Str} (g : Good nn ys) (lo : nn.all lowZ = true) (e : ys.length = nn.length) : Full nn ys := fun n hn => by
  have ln := List.all_eq_true.mp lo n hn
  have sg : Sg n n := .inl rfl
  have bo : bareS (oppS n) = n := (bare_opp (sg.lit ln)).trans (bare_low ln)
  have bn : bareS n = n := bare_low ln
  have pm := perm_sub (L := ys.map bareS) (ss := nn) g.one (fun z hz => by
    obtain ⟨y, hy, rfl⟩ := List.mem_map.mp hz
    obtain ⟨s, hs, k⟩ := g.lit y hy
    rw [k.bare (List.all_eq_true.mp lo s hs)]
    exact hs) (by rw [List.length_map, e]; exact Nat.le_refl _)
  obtain ⟨y, hy, e1⟩ := List.mem_map.mp (pm.mem_iff.mpr hn)
  have ne : oppS n ≠ n := (sg.opp ln).2
  have hy2 : y = n ∨ y = oppS n := by
    obtain ⟨s, hs, k⟩ := g.lit y hy
    have e2 := k.bare (List.all_eq_true.mp lo s hs)
    rw [e1] at e2
    subst e2
    rcases k with k | k
    · exact .inl k
    · right
      rw [k, opp_pos (low_neg ln)]
  rcases hy2 with rfl | rfl
  · left
    refine ⟨hy, fun z => ?_⟩
    exact ne (inj_of_nodup g.one z hy (by rw [bo, bn]))
  · right
    refine ⟨fun z => ?_, hy⟩
    exact ne (inj_of_nodup g.one hy z (by rw [bo, bn]))
/-- all of w stands in ys -/
def inAll (ys w : List Str) : Bool := w.all fun x => decide (x ∈ ys)
theorem inAll_iff {ys w : List Str} : inAll ys w = true ↔ ∀ x ∈ w, x ∈ ys := by
  unfold inAll
  rw [List.all_eq_true]
  exact ⟨fun h x hx => of_decide_eq_true (h x hx), fun h x hx => decide_eq_true (h x hx)⟩
theorem inAll_snoc {ys w : List Str} {n : Str} : inAll ys (w ++ [n]) = (inAll ys w && decide (n ∈ ys)) := by
  unfold inAll
  rw [List.all_append]
  simp
theorem way_none {rows : List (List Str)} {nn ys : List Str} : ∀ {t : Tr} {part : List Str}, inAll ys part = false → (t.ways part).countP (inAll ys) = 0
  | .leaf r, part, h => by
    show ([part] : List (List Str)).countP (inAll ys) = 0
    simp [h]
  | .node n x y, part, h => by
    show (x.ways (part ++ [n]) ++ y.ways (part ++ [oppS n])).countP (inAll ys) = 0
    rw [List.countP_append, way_none (rows := rows) (nn := nn) (t := x) (part := part ++ [n]) (by rw [inAll_snoc, h]; rfl), way_none (rows := rows) (nn := nn) (t := y) (part := part ++ [oppS n]) (by rw [inAll_snoc, h]; rfl)]
theorem way_one {rows : List (List Str)} {nn ys : List Str} (f : Full nn ys) : ∀ {t : Tr} {part : List Str}, GoodT rows nn part t → inAll ys part = true → (t.ways part).countP (inAll ys) = 1
  | .leaf r, part, _, h => by
    show ([part] : List (List Str)).countP (inAll ys) = 1
    simp [h]
  | .node n x y, part, g, h => by
    obtain ⟨hn, _, _, gx, gy⟩ := g
    show (x.ways (part ++ [n]) ++ y.ways (part ++ [oppS n])).countP (inAll ys) = 1
    rw [List.countP_append]
    rcases f n hn with ⟨a, b⟩ | ⟨a, b⟩
    · rw [way_one f gx (by rw [inAll_snoc, h, decide_eq_true a]; rfl), way_none (rows := rows) (nn := nn) (by rw [inAll_snoc, h, decide_eq_false b]; rfl)]
    · rw [way_one f gy (by rw [inAll_snoc, h, decide_eq_true b]; rfl), way_none (rows := rows) (nn := nn) (by rw [inAll_snoc, h, decide_eq_false a]; rfl)]
theorem breaks_up {part ys r : List Str} (h : inAll ys part = true) (b : breaksB part r = true) : breaksB ys r = true := by
  unfold breaksB at b ⊢
  exact List.all_eq_true.mpr fun y hy => decide_eq_true (inAll_iff.mp h _ (of_decide_eq_true (List.all_eq_true.mp b y hy)))
theorem down_breaks {rows : List (List Str)} {nn ys : List Str} (f : Full nn ys) : ∀ {t : Tr} {part : List Str}, GoodT rows nn part t → inAll ys part = true → breaksB ys (t.down ys) = true ∧ t.down ys ∈ rows
  | .leaf r, part, g, h => ⟨breaks_up h g.2, g.1⟩
  | .node n x y, part, g, h => by
    obtain ⟨hn, _, _, gx, gy⟩ := g
    show breaksB ys (if n ∈ ys then x.down ys else y.down ys) = true ∧ (if n ∈ ys then x.down ys else y.down ys) ∈ rows
    rcases f n hn with ⟨a, b⟩ | ⟨a, b⟩
    · rw [if_pos a]
      exact down_breaks f gx (by rw [inAll_snoc, h, decide_eq_true a]; rfl)
    · rw [if_neg a]
      exact down_breaks f gy (by rw [inAll_snoc, h, decide_eq_true b]; rfl)
theorem inAll_ord {ys r w : List Str} (h : InOrd r w) : inAll ys r = inAll ys w := by
  rw [Bool.eq_iff_iff, inAll_iff, inAll_iff]
  exact ⟨fun k x hx => k x ((h.mem x).mpr hx), fun k x hx => k x ((h.mem x).mp hx)⟩
theorem count_ord {ys : List Str} : ∀ {ws rs : List (List Str)}, Paired (fun w r => InOrd r w) ws rs → rs.countP (inAll ys) = ws.countP (inAll ys)
  | _, _, .nil => rfl
  | _, _, .cons h t => by
    rw [List.countP_cons, List.countP_cons, count_ord t, inAll_ord h]
/-- a row of all names -/
theorem whole_row {os : List (List Str)} {ns : List Str} (nd : ns.Nodup) (lo : ns.all lowZ = true) (pr : Paired (fun w o => InOrd o w) (partsU ns) os) {o : List Str} (h : o ∈ os) : Good ns o := by
  have find : ∀ {ws os : List (List Str)}, Paired (fun w o => InOrd o w) ws os → ∀ o ∈ os, ∃ w ∈ ws, InOrd o w := by
    intro ws os p
    induction p with
    | nil => exact fun o h => nomatch h
    | cons h t ih =>
      intro o ho
      rcases List.mem_cons.mp ho with rfl | ho
      · exact ⟨_, List.mem_cons_self, h⟩
      · obtain ⟨w, hw, k⟩ := ih o ho
        exact ⟨w, List.mem_cons_of_mem _ hw, k⟩
  obtain ⟨w, hw, io⟩ := find pr o h
  obtain ⟨ss, sg, sub⟩ := partsU_sgs ns w hw
  exact (good_of sg (nd.sublist sub) (fun s hs => sub.subset hs) lo io).1
theorem whole_len {os : List (List Str)} {ns : List Str} (nd : ns.Nodup) (lo : ns.all lowZ = true) (pr : Paired (fun w o => InOrd o w) (partsU ns) os) : ((asc os).filter fun o => decide (o.length = ns.length)).length ≤ 2 ^ ns.length := by
  have h1 : ((asc os).filter fun o => decide (o.length = ns.length)).length = (os.filter fun o => decide (o.length = ns.length)).length := ((asc_perm os).filter _).length_eq
  rw [h1, prd_filter_len pr fun w hw => (partsU_nd nd lo w hw).1]
  exact full_count
/-! ### list.count of truth values -/
def isT (v : Value) : Bool := match v with
  | .bool b => b == true
  | _ => false
theorem bools_of : ∀ {bs : List Bool} {us : List Value}, Vals (bs.map V.bl) us → us = bs.map Value.bool
  | [], _, .nil => rfl
  | b :: bs, _, .cons r t => by
    cases r
    rw [bools_of t]
    rfl
theorem count_isT : ∀ bs : List Bool, (bs.map Value.bool).countP isT = bs.countP id
  | [] => rfl
  | b :: bs => by
    rw [List.map_cons, List.countP_cons, List.countP_cons, count_isT bs]
    cases b <;> rfl
def rCntT (K : PySem.W.Frag) : V → List V → Hp → VK → Prop := fun x xs H Q => ∃ (p : Addr) (bs : List Bool), x = .ref p ∧ xs = [.bl true] ∧ SqL K H p (bs.map V.bl) ∧ Q (.int (bs.countP id : Nat)) H
theorem mt_countT {X : Cx} : MtR X "list.count" (rCntT X.K) := by
  intro pins s σ H x xs v us Q I rx rxs h
  obtain ⟨p, bs, rfl, rfl, hs, q⟩ := h
  cases rx
  obtain ⟨u, rfl, ru⟩ := rxs.one
  cases ru
  obtain ⟨its, rv, ⟨⟨cls, dd, data, sl⟩, n, ho, hc, hdn, hd⟩, hlen⟩ := I.list hs
  simp only at hc hd
  subst hc hd
  have hi := bools_of rv
  refine call_meets PySem.F.slot_list_count ⟨_, ho, rfl⟩ PySem.F.entry_list_count (PySem.F.args_list_count_2 _ _)
    (SeqAt.list_countAt p its.toArray n dd sl (.bool true) isT) ⟨ho, fun y hy => ?_, ?_⟩
  · have hy2 : y ∈ bs.map Value.bool := by rw [← hi]; simpa using hy
    obtain ⟨b, _, rfl⟩ := List.mem_map.mp hy2
    exact SeqAt.EqAt.bool_bool b true
  · have ec : its.toArray.toList.countP isT = bs.countP id := by
      rw [show its.toArray.toList = its from rfl, hi]
      exact count_isT bs
    refine ⟨.int (bs.countP id : Nat), H, I.tok _, ⟨s.toks, ?_⟩, q⟩
    show Value.int ((its.toArray.toList.countP isT : Nat) : Int) s.toks = Value.int ((bs.countP id : Nat) : Int) s.toks
    rw [ec]
/-! ### all but the purse is kept, books keep their promise -/
structure KB (C M p : Addr) (H H' : Hp) : Prop where
  p0 : ∃ l, H p = some (.lst l)
  p1 : ∃ l, H' p = some (.lst l)
  old : ∀ q o, H q = some o → q ≠ p → (∀ dx fs, o ≠ .ins C dx fs) → H' q = some o
  ins : ∀ q dx fs, H q = some (.ins C dx fs) → ∃ fs', H' q = some (.ins C dx fs')
  book : ∀ b rows ns, BookAt C M H b rows ns → BookAt C M H' b rows ns
theorem KB.of {C M p : Addr} {H H' : Hp} {l : List V} (s : Keep C M H H') (hp : H p = some (.lst l)) : KB C M p H H' :=
  ⟨⟨l, hp⟩, ⟨l, s.lst hp⟩, fun q o e _ n => s.old q o e n, s.ins, s.book⟩
theorem KB.trans {C M p : Addr} {H H1 H2 : Hp} (a : KB C M p H H1) (b : KB C M p H1 H2) : KB C M p H H2 :=
  ⟨a.p0, b.p1, fun q o e n k => b.old q o (a.old q o e n k) n k, fun q dx fs e => let ⟨fs1, e1⟩ := a.ins q dx fs e; b.ins q dx fs1 e1, fun x rows ns h => b.book x rows ns (a.book x rows ns h)⟩
theorem KB.keep {C M p : Addr} {H H1 H2 : Hp} (a : KB C M p H H1) (b : Keep C M H1 H2) : KB C M p H H2 := by
  obtain ⟨l, e⟩ := a.p1
  exact a.trans (KB.of b e)
theorem KB.same {C M p : Addr} {H H1 H2 : Hp} (a : KB C M p H H1) (b : Same H1 H2) : KB C M p H H2 := a.keep (Keep.of b)
theorem KB.but {C M p : Addr} {H H1 H2 : Hp} {l : List V} (a : KB C M p H H1) (b : But p H1 H2) (e : H2 p = some (.lst l)) : KB C M p H H2 := by
  obtain ⟨l1, e1⟩ := a.p1
  refine a.trans ⟨⟨l1, e1⟩, ⟨l, e⟩, fun q o e n _ => b q o e n, fun q dx fs e2 => ⟨fs, b q _ e2 (ne_of e2 e1 (by intro z; cases z))⟩, fun x rows ns h => h.but b e1⟩
theorem KB.free {C M p : Addr} {H H1 : Hp} (a : KB C M p H H1) {q : Addr} (n : H1 q = none) : H q = none := by
  cases e : H q with
  | none => rfl
  | some o =>
    by_cases z : ∃ dx fs, o = .ins C dx fs
    · obtain ⟨dx, fs, rfl⟩ := z
      obtain ⟨fs', e'⟩ := a.ins q dx fs e
      rw [n] at e'
      cases e'
    · by_cases qp : q = p
      · subst qp
        obtain ⟨l, e'⟩ := a.p1
        rw [n] at e'
        cases e'
      · have := a.old q o e qp fun dx fs k => z ⟨dx, fs, k⟩
        rw [n] at this
        cases this
theorem KB.lst {C M p : Addr} {H H1 : Hp} (a : KB C M p H H1) {q : Addr} {l : List V} (e : H q = some (.lst l)) (n : q ≠ p) : H1 q = some (.lst l) := a.old q _ e n (by intro dx fs z; cases z)
theorem KB.tup {C M p : Addr} {H H1 : Hp} (a : KB C M p H H1) {q : Addr} {l : List V} (e : H q = some (.tup l)) : H1 q = some (.tup l) := by
  obtain ⟨l0, e0⟩ := a.p0
  exact a.old q _ e (ne_of e e0 (by intro z; cases z)) (by intro dx fs z; cases z)
theorem KB.rows {C M p : Addr} {H H1 : Hp} (a : KB C M p H H1) {qs : List Rs} (h : RowsAt H qs) : RowsAt H1 qs := fun q hq => a.tup (h q hq)
theorem KB.tree {C M p : Addr} {H H' : Hp} (s : KB C M p H H') : ∀ {t : Tr} {v : V}, TrAt H v t → TrAt H' v t
  | .leaf r, v, ⟨a, e, h, g⟩ => ⟨a, e, s.tup h, g⟩
  | .node n x y, v, ⟨a, u, z, e, h, l, hx, hy⟩ => ⟨a, u, z, e, s.tup h, l, KB.tree s hx, KB.tree s hy⟩
theorem KB.setL {C M p D : Addr} {H H4 : Hp} {l l' : List V} (s : KB C M p H H4) (n : H D = none) (h : H4 D = some (.lst l)) : KB C M p H (upd H4 D (.lst l')) := by
  obtain ⟨l0, e0⟩ := s.p0
  have np : p ≠ D := ne_of_none e0 n
  obtain ⟨l1, e1⟩ := s.p1
  exact ⟨⟨l0, e0⟩, ⟨l1, by rw [upd_ne np]; exact e1⟩, fun p o e k m => by
    rw [upd_ne (ne_of_none e n)]
    exact s.old p o e k m, fun p dx fs e => by
    rw [upd_ne (ne_of_none e n)]
    exact s.ins p dx fs e, fun b rows ns e => (s.book b rows ns e).but (q := D) But.set h⟩
end My
end

section
set_option Elab.async false
set_option linter.all false
set_option maxRecDepth 100000
set_option maxHeartbeats 4000000
namespace My
local macro_rules | `(tactic| walk_at "go") => `(tactic| (repeat (first
  | (refine ⟨_, rfl, ?_⟩)
  | (refine ⟨_, _, rfl, rfl, ?_⟩)
  | (refine ⟨_, _, rfl, ?_⟩)
  | (refine ⟨rfl, ?_⟩)
  | (refine Or.inl ⟨_, rfl, ?_⟩)
  | (refine ⟨_, _, _, _, rfl, rfl, L2.SqL.of (by first | assumption | exact L2.upd_same), rfl, ?_⟩)
  | (refine ⟨_, _, _, _, rfl, rfl, (by first | assumption | exact L2.upd_same), rfl, ?_⟩)
  | (refine And.intro (by first | omega | decide | (unfold L2.CPow; decide) | (unfold L2.CMul; omega) | (unfold L2.CDiv; omega)) ?_))))
open PySem PySem.Spec PyProof.Rows L2 TL MyF MyS MyW RZ MyR MyT MyQ MyV MyZ
section
variable {P : Program} {w : World} {K : PySem.W.Frag} {mg : Str → Option Value} {base : Heap}
/-! ### _law_tree_right -/
abbrev sRight : Stmt := top 70
abbrev Nr : List Str := ["_law_purse_here", "_law_made_here", "_law_rows_here", "_law_tree", "_law_due", "_law_names_here", "_law_told", "_law_sizes", "_law_part", "_law_firsts", "_law_whole", "_law_asked", "_law_leaf", "_law_some", "_law_way", "_law_one", "_law_mine", "_law_late"]
def scW : Scope := { kind := .function, names := [(".0", .local), ("_law_way", .local), ("all", .globalImplicit), ("_law_whole", .cell)], isGenerator := false, isCoroutine := false }
def spRight (K : PySem.W.Frag) (C M : Addr) : Sp := fun vs H Q _ => ∃ (p b a : Addr) (v : V) (n : Int) (l : List V) (ps : List Rs) (nn c : List Str) (t : Tr), vs = [.ref p, .ref b, .ref a, v] ∧ H p = some (.lst l) ∧ PurseL n l ∧ n ≤ 800000 ∧ Bk ps nn c ∧ BookAt C M H b (ps.map (·.2)) nn ∧ H a = some (.lst (refs ps)) ∧ a ≠ p ∧ RowsAt H ps ∧ TrAt H v t ∧ GoodT (ps.map (·.2)) nn [] t ∧ t.dep ≤ 6 ∧
  ∀ H' l', KB C M p H H' → H' p = some (.lst l') → PurseL (n + 64) l' → Q (.bl true) H'
theorem sc_right : FnScope Nr ["_law_purse_here", "_law_made_here", "_law_rows_here", "_law_tree"] (defScope sRight) := ⟨rfl, rfl, rfl, by decide +kernel, rfl, by decide +kernel, by decide +kernel⟩
def tLens (K : PySem.W.Frag) : TE := tLc (iSq K 4) (gName 8) tYes (tCB (rLenQ K) (tCons (tVar 8) tNil)) [8]
theorem prd_mem {α β : Type} {F : α → β → Prop} : ∀ {as : List α} {bs : List β} {b : β}, Paired F as bs → b ∈ bs → ∃ a ∈ as, F a b
  | _, _, _, .nil, h => nomatch h
  | _, _, _, .cons r t, h => by
    rcases List.mem_cons.mp h with rfl | h
    · exact ⟨_, List.mem_cons_self, r⟩
    · obtain ⟨a, ha, k⟩ := prd_mem t h
      exact ⟨a, List.mem_cons_of_mem _ ha, k⟩
theorem KB.drop {C M p F : Addr} {H H1 H2 : Hp} (a : KB C M p H H1) (b : KB C M F H1 H2) (n : H F = none) : KB C M p H H2 := by
  obtain ⟨l0, e0⟩ := a.p0
  have np : p ≠ F := ne_of_none e0 n
  obtain ⟨l1, e1⟩ := a.p1
  exact ⟨⟨l0, e0⟩, ⟨l1, b.lst e1 np⟩, fun q o e k m => b.old q o (a.old q o e k m) (ne_of_none e n) m, fun q dx fs e => let ⟨fs1, e1⟩ := a.ins q dx fs e; b.ins q dx fs1 e1, fun x rows ns h => b.book x rows ns (a.book x rows ns h)⟩
theorem mem_cut {x : V} {xs : List V} {lo hi : Option Int} (h : x ∈ cutV xs lo hi) : x ∈ xs := List.mem_of_mem_drop (List.mem_of_mem_take h)
/-- a pair of like lists of texts, apart from F -/
def Like (H : Hp) (F f : Addr) : Prop := ∃ (m q : Addr) (ys : List Str), H f = some (.lst [.ref m, .ref q]) ∧ H m = some (.lst (ys.map V.str)) ∧ H q = some (.lst (ys.map V.str)) ∧ m ≠ F ∧ q ≠ F ∧ f ≠ F ∧ ys.length ≤ 6
theorem Like.kb {C M F f : Addr} {H H' : Hp} (h : Like H F f) (k : KB C M F H H') : Like H' F f := by
  obtain ⟨m, q, ys, h1, h2, h3, n1, n2, n3, l⟩ := h
  exact ⟨m, q, ys, k.lst h1 n3, k.lst h2 n1, k.lst h3 n2, n1, n2, n3, l⟩
theorem lens_run {qd : Addr} {dq : List Rs} {σ : L2.St} {H : Hp} {Q : VK} (e4 : σ[4]? = some (some (V.ref qd))) (w8 : ∀ x, wipe ((wipe σ [8]).set 8 (some x)) [8] = wipe σ [8]) (a8 : ∀ x : V, ((wipe σ [8]).set 8 (some x))[8]? = some (some x)) (hS : H qd = some (.lst (refs dq))) (hr : RowsAt H dq) (few : dq.length ≤ 64)
    (k : ∀ H' D, Same H H' → H D = none → H' D = some (.lst ((dq.map fun r => ((r.2.length : Nat) : Int)).map V.int)) → Q (.ref D) H') : tLc (iSq K 4) (gName 8) tYes (tCB (rLenQ K) (tCons (tVar 8) tNil)) [8] σ H Q := by
  refine rel_seq (fun _ => true) LenR lenR_stays e4 (.inl (SqL.of hS)) (by rw [refs, List.length_map, sizeLine_eq]; omega) (fun x H4 Ψ Θ hx s4 yes no => ?_) (fun H4 D' ys s4 nD' h4 pr' => ?_)
  · obtain ⟨p, hp, rfl⟩ := List.mem_map.mp hx
    have h4 := rows_same hr s4 p hp
    refine ⟨w8 _, ?_⟩
    show (if true = true then tCB (rLenQ K) (tCons (tVar 8) tNil) ((wipe σ [8]).set 8 (some (V.ref p.1))) H4 Ψ else Θ H4)
    refine iteT ?_
    refine ⟨_, a8 _, p.1, _, rfl, .inr (SqT.of h4), ?_⟩
    rw [List.length_map]
    exact yes rfl _ H4 (same_refl _) ⟨p.1, p.2, rfl, h4, rfl⟩
  · rw [show (refs dq).filter (fun _ => true) = refs dq by simp] at pr'
    have e := lens_rel pr' (rows_same hr s4)
    exact k H4 D' s4 nD' (by rw [h4, e, List.map_map]; rfl)
theorem whole_run {qn : Addr} {ns : List Str} {σ : L2.St} {H : Hp} {Q : VK} (e5 : σ[5]? = some (some (V.ref qn))) (w8 : ∀ x, wipe ((wipe σ [8]).set 8 (some x)) [8] = wipe σ [8]) (a8 : ∀ x : V, ((wipe σ [8]).set 8 (some x))[8]? = some (some x)) (a5 : ∀ x : V, ((wipe σ [8]).set 8 (some x))[5]? = some (some (V.ref qn)))
    (hqn : H qn = some (.lst (ns.map V.str))) (n6 : ns.length ≤ 6) (nnd : ns.Nodup) (nlo : ns.all lowZ = true)
    (k : ∀ H' D wq, Same H H' → H D = none → H' D = some (.lst (refs wq)) → RowsAt H' wq → wq.length ≤ 64 → (∀ r ∈ wq, Good ns r.2 ∧ r.2.length = ns.length) → Q (.ref D) H') :
    tLc (iList K (tCall (spParts2 K) [] E0 (tCons (tVar 5) tNil))) (gName 8) (tTest (tOp rEq (tCB (rLenQ K) (tCons (tVar 8) tNil)) (tCB (rLenQ K) (tCons (tVar 5) tNil)))) (tVar 8) [8] σ H Q := by
  refine ⟨_, e5, qn, ns, rfl, SqL.of hqn, n6, nnd, nlo, fun H14 z os s14 nr14 pr14 => ?_⟩
  obtain ⟨nz, ts, hz, rz, mz⟩ := nr14
  have lts2 : ts.length ≤ 729 := by
    have h1 := congrArg List.length mz
    have h2 := (asc_perm os).length_eq
    have h3 := pr14.length
    have h4 := partsU_len ns
    rw [List.length_map] at h1
    have := pow3 n6
    omega
  refine ⟨z, rfl, ⟨_, SqL.of hz⟩, ?_⟩
  refine fun D nD => rel_lst (g := gName 8) (te := tVar 8) (tt := tTest (tOp rEq (tCB (rLenQ K) (tCons (tVar 8) tNil)) (tCB (rLenQ K) (tCons (tVar 5) tNil)))) (vs := [8]) (σ := σ) (Q := Q) (fun x => decide ((strsV (itemsAt H14 x)).length = ns.length)) (fun x y _ => y = x) (fun x y H H' D l e _ _ => e) (SqL.of hz) (by rw [refs, List.length_map, sizeLine_eq]; omega) (fun x H2 Ψ Θ hx s2 yes no => ?_) (fun H15 D' ys s15 nD' h15 pr15 => ?_) D nD
  · obtain ⟨r, hr', rfl⟩ := List.mem_map.mp hx
    have hrr := rz r hr'
    have e : strsV (itemsAt H14 (.ref r.1)) = r.2 := by rw [itemsAt_of hrr, strsV_map]
    refine ⟨w8 _, ?_⟩
    refine ⟨_, a8 _, r.1, _, rfl, .inr (SqT.of (s2 _ _ hrr)), ?_⟩
    refine ⟨_, a5 _, qn, _, rfl, .inl (SqL.of (s2 _ _ (s14 _ _ hqn))), ?_⟩
    refine ⟨rfl, _, rfl, ?_⟩
    rw [List.length_map, List.length_map]
    by_cases c : r.2.length = ns.length
    · rw [show decide (V.int ((r.2.length : Nat) : Int) = V.int ((ns.length : Nat) : Int)) = true by rw [c]; simp]
      exact ⟨_, a8 _, yes (by rw [e]; exact decide_eq_true c) _ H2 (same_refl _) rfl⟩
    · rw [show decide (V.int ((r.2.length : Nat) : Int) = V.int ((ns.length : Nat) : Int)) = false from decide_eq_false fun z => c (by injection z with z; omega)]
      exact no (by rw [e]; exact decide_eq_false c) H2 (same_refl _)
  have e1 := prd_eq pr15
  subst e1
  rw [filt_refs (H := H14) (fun o => decide (o.length = ns.length)) rz] at h15
  refine k H15 D' (ts.filter fun r => decide (r.2.length = ns.length)) (same_trans s14 s15) (same_free s14 nD') h15 (fun r hr' => s15 _ _ (rz r (List.mem_filter.mp hr').1)) ?_ (fun r hr' => ?_)
  · have h1 := whole_len nnd nlo pr14
    rw [← mz, List.filter_map, List.length_map] at h1
    have h2 : (2 : Nat) ^ ns.length ≤ 2 ^ 6 := Nat.pow_le_pow_right (by decide) n6
    have h3 : (2 : Nat) ^ 6 = 64 := rfl
    have h4 : (ts.filter fun r => decide (r.2.length = ns.length)) = (ts.filter ((fun o : List Str => decide (o.length = ns.length)) ∘ fun r => r.2)) := rfl
    rw [h4]
    omega
  · obtain ⟨h1, h2⟩ := List.mem_filter.mp hr'
    have h3 : r.2 ∈ asc os := mz ▸ List.mem_map.mpr ⟨r, h1, rfl⟩
    exact ⟨whole_row nnd nlo pr14 (mem_asc.mp h3), of_decide_eq_true h2⟩
theorem cut_le {lo hi : Option Int} (xs : List V) : (cutV xs lo hi).length ≤ xs.length := by
  show ((xs.drop _).take _).length ≤ _
  rw [List.length_take, List.length_drop]
  omega
theorem count_run {qt w : Addr} {tq : List Rs} {zs : List Str} {v0 v1 v2 v3 v4 v5 v7 v9 : V} {x11 x12 x13 : Option V} {H : Hp} {Q : VK} (hS : H qt = some (.lst (refs tq))) (hr : RowsAt H tq) (few : tq.length ≤ 64) (sh : ∀ r ∈ tq, r.2.length < 1000) (hw : SqT K H w (zs.map V.str))
    (k : ∀ H' D, Same H H' → H D = none → H' D = some (.lst ((tq.map fun r => inAll zs r.2).map V.bl)) → Q (.ref D) H') :
    tLc (iSq K 6) (gName 14) tYes (tCB (rAll K) (tCons (tLc (iSq K 14) (gName 15) tYes (tOp (rIn K false) (tVar 15) (tVar 10)) [15]) tNil)) [14, 15]
      [some v0, some v1, some v2, some v3, some v4, some v5, some (.ref qt), some v7, none, some v9, some (.ref w), x11, x12, x13, none, none, none, none] H Q := by
  refine seq_lc (fun x => some (.bl (inAll zs (strsV (itemsAt H x))))) rfl (.inl (SqL.of hS)) (by rw [refs, List.length_map, sizeLine_eq]; omega) (fun x H2 Ψ Θ hx s2 yes no => ?_) (fun H2 D s2 nD h2 => ?_)
  · obtain ⟨r, hr', rfl⟩ := List.mem_map.mp hx
    have hrr := hr r hr'
    have e : strsV (itemsAt H (.ref r.1)) = r.2 := by rw [itemsAt_of hrr, strsV_map]
    have sh' := sh r hr'
    refine ⟨rfl, ?_⟩
    show (if true = true then tCB (rAll K) (tCons (tLc (iSq K 14) (gName 15) tYes (tOp (rIn K false) (tVar 15) (tVar 10)) [15]) tNil) [some v0, some v1, some v2, some v3, some v4, some v5, some (.ref qt), some v7, none, some v9, some (.ref w), x11, x12, x13, some (.ref r.1), none, none, none] H2 Ψ else Θ H2)
    refine iteT ?_
    dsimp only [tCB, tCons, tNil]
    refine seq_lc (fun x => some (.bl (inV x (zs.map V.str)))) rfl (.inr (SqT.of (s2 _ _ hrr))) (by rw [List.length_map, sizeLine_eq]; omega) (fun x H3 Ψ' Θ' hx s3 yes' no' => ?_) (fun H3 D3 s3 nD3 h3 => ?_)
    · obtain ⟨y, hy, rfl⟩ := List.mem_map.mp hx
      refine ⟨rfl, ?_⟩
      show (if true = true then tOp (rIn K false) (tVar 15) (tVar 10) [some v0, some v1, some v2, some v3, some v4, some v5, some (.ref qt), some v7, none, some v9, some (.ref w), x11, x12, x13, some (.ref r.1), some (.str y), none, none] H3 Ψ' else Θ' H3)
      refine iteT ?_
      refine ⟨_, rfl, _, rfl, w, _, rfl, .inr (sqT_same hw (same_trans s2 s3)), rfl, flat_strs zs, ?_⟩
      exact yes' _ H3 rfl (same_refl _)
    · refine all_done (xs := r.2) (b := fun y => decide (y ∈ zs)) ?_ (yes _ H3 (by rw [e]; rfl) s3)
      rw [h3, fm_some, fm_some, List.map_map]
      congr 2
      refine List.map_congr_left fun y _ => ?_
      show V.bl (inV (.str y) (zs.map V.str)) = _
      rw [inV_strs]
  · refine k H2 D s2 nD ?_
    rw [h2, fm_some, refs, List.map_map, List.map_map]
    congr 2
    refine List.map_congr_left fun r hr' => ?_
    show V.bl (inAll zs (strsV (itemsAt H (.ref r.1)))) = V.bl (inAll zs r.2)
    rw [itemsAt_of (hr r hr'), strsV_map]
theorem ok_right {f C M : Addr} {fd : FuncData} (G : Fun K "_law_tree_right" "_law_tree_right" sRight f fd) (B : Pts mg) (T : TxtB K mg C)
    (FW : ∀ rows ns, FN P w K mg base "_law_ways" 8 ["_law_tree", "_law_here"] (spLWays rows ns 6)) (FN' : FN P w K mg base "_law_names" 2 ["_law_rows_here"] (spNames K))
    (FY : FN P w K mg base "ways_to_leaves" 17 ["book", "tree"] (spWays K C M)) (FH : FN P w K mg base "heights" 18 ["book", "tree"] (spHeights C M)) (FE : FN P w K mg base "_law_exact" 4 ["_law_mine", "_law_theirs"] (spExact K 3))
    (FM : FN P w K mg base "_law_made" 7 ["_law_rows_here"] (spMade K C M)) (FS : FN P w K mg base "_law_shuffled" 3 ["_law_purse_here", "_law_some"] (spShuf K)) (FP : FN P w K mg base "_law_parts" 1 ["_law_names_here"] (spParts2 K))
    (FA : FN P w K mg base "asked_on" 17 ["book", "tree", "part"] (spAsked K C M)) (FL : FN P w K mg base "_law_led" 2 ["_law_tree", "_law_part"] (spLed K)) (FD : FN P w K mg base "leaf_at" 17 ["book", "tree", "part"] (spLeafAt K C M))
    (FB : FN P w K mg base "_law_breaks" 2 ["_law_part", "_law_clause_here"] (spLBreaks K)) :
    FnOk P w K mg base CX0 19 f fd ["_law_purse_here", "_law_made_here", "_law_rows_here", "_law_tree"] (spRight K C M) := by
  have sc := sc_right
  obtain ⟨fN, dN, mN, kN, ON, bN⟩ := FN'
  obtain ⟨fY, dY, mY, kY, OY, bY⟩ := FY
  obtain ⟨fH, dH, mH, kH, OH, bH⟩ := FH
  obtain ⟨fE, dE, mE, kE, OE, bE⟩ := FE
  obtain ⟨fM, dM, mM, kM, OM, bM⟩ := FM
  obtain ⟨fS, dS, mS, kS, OS, bS⟩ := FS
  obtain ⟨fP, dP, mP, kP, OP, bP⟩ := FP
  obtain ⟨fA, dA, mA, kA, OA, bA⟩ := FA
  obtain ⟨fL, dL, mL, kL, OL, bL⟩ := FL
  obtain ⟨fD, dD, mD, kD, OD, bD⟩ := FD
  obtain ⟨fB, dB, mB, kB, OB, bB⟩ := FB
  refine G.ok sc (fun vs H Q E h => ?_) (fun cdv A outer s H vs Q E hr h => ?_)
  · obtain ⟨_, _, _, _, _, _, _, _, _, _, rfl, _⟩ := h
    rfl
  · obtain ⟨p, b, a, v, n, l, ps, nn, c, t, rfl, hp, hl, hn, bk, hb, ha, nap, hw, ht, gt, hd, k⟩ := h
    obtain ⟨fW, dW, mW, kW, OW, bW⟩ := FW (ps.map (·.2)) nn
    have hr1 : Room 1 _ := hr.mono (by decide)
    have hr2 : Room 2 _ := hr.mono (by decide)
    have hr3 : Room 3 _ := hr.mono (by decide)
    have hr4 : Room 4 _ := hr.mono (by decide)
    have hr7 : Room 7 _ := hr.mono (by decide)
    have hr8 : Room 8 _ := hr.mono (by decide)
    have hr17 : Room 17 _ := hr.mono (by decide)
    have hr18 : Room 18 _ := hr.mono (by decide)
    apply Exists.intro
    apply And.intro
    · apply pss_cons
      · exact ps_asg (pe_tup (pa_cons (pe_call OW hr8 rfl mW kW bW .nil pass0 (pa_cons (pv 3) (pa_cons (pe_lst pa_nil) pa_nil))) (pa_cons (pe_call ON hr2 rfl mN kN bN .nil pass0 (pa_cons (pv 2) pa_nil)) pa_nil))) (pg_tup rfl (pgs_cons (pg_name (i := 4) sc.nd rfl (Or.inl rfl)) (pgs_cons (pg_name (i := 5) sc.nd rfl (Or.inr rfl)) pgs_nil)))
      · apply pss_cons
        · exact ps_par (i := 6) (j := 7) (by rfl) sc.nd rfl rfl (by decide) rfl rfl (pa_cons (pe_call OY hr17 rfl mY kY bY .nil pass0 (pa_cons (pv 1) (pa_cons (pv 3) pa_nil))) (pa_cons (pe_call OH hr18 rfl mH kH bH .nil pass0 (pa_cons (pv 1) (pa_cons (pv 3) pa_nil))) pa_nil)) (by rfl)
        · apply pss_cons
          · exact ps_if (pt_not (pt_val (pe_call OE hr4 rfl mE kE bE .nil pass0 (pa_cons (pe_lst (pa_cons (pv 6) (pa_cons (pv 7) (pa_cons (pe_call OH hr18 rfl mH kH bH .nil pass0 (pa_cons (pe_call OM hr7 rfl mM kM bM .nil pass0 (pa_cons (pv 2) pa_nil)) (pa_cons (pv 3) pa_nil))) pa_nil)))) (pa_cons (pe_lst (pa_cons (pv 4) (pa_cons (pe_lc (own := [("_law_part", 8)]) (g := gName 8) (tt := tYes) (te := tCB (rLenQ K) (tCons (tVar 8) tNil)) rfl sc.nd (pi_sq (pv 4)) (blkOk_by (N := Nr) (sc := defScope sRight) (by decide +kernel)) (fun _ _ _ _ _ => pg_name (i := 8) sc.nd rfl (Or.inl rfl)) (fun _ _ _ _ _ => pts_nil) (fun _ _ _ _ _ => pe_callB cr_lenQ (by rfl) B.len boot_len (pa_cons (pv 8) pa_nil))) (pa_cons (pe_lc (own := [("_law_part", 8)]) (g := gName 8) (tt := tYes) (te := tCB (rLenQ K) (tCons (tVar 8) tNil)) rfl sc.nd (pi_sq (pv 4)) (blkOk_by (N := Nr) (sc := defScope sRight) (by decide +kernel)) (fun _ _ _ _ _ => pg_name (i := 8) sc.nd rfl (Or.inl rfl)) (fun _ _ _ _ _ => pts_nil) (fun _ _ _ _ _ => pe_callB cr_lenQ (by rfl) B.len boot_len (pa_cons (pv 8) pa_nil))) pa_nil)))) pa_nil))))) (pss_one (ps_ret pe_bl)) pss_nil
          · apply pss_cons
            · exact ps_set (i := 9) sc.nd rfl (Or.inl rfl) (pe_lst pa_nil)
            · apply pss_cons
              · exact ps_for PassesOwn.never rfl (pi_list (pe_slice sl_list (pe_call OS hr3 rfl mS kS bS .nil pass0 (pa_cons (pv 0) (pa_cons (pe_lc (own := [("_law_part", 8)]) (g := gName 8) (tt := tTest (tOp rEq (tCB (rLenQ K) (tCons (tVar 8) tNil)) (tCB (rLenQ K) (tCons (tVar 5) tNil)))) (te := tVar 8) rfl sc.nd (pi_list (pe_call OP hr1 rfl mP kP bP .nil pass0 (pa_cons (pv 5) pa_nil))) (blkOk_by (N := Nr) (sc := defScope sRight) (by decide +kernel)) (fun _ _ _ _ _ => pg_name (i := 8) sc.nd rfl (Or.inl rfl)) (fun _ _ _ _ _ => pts_one (pt_cmpR op_eq (pe_callB cr_lenQ (by rfl) B.len boot_len (pa_cons (pv 8) pa_nil)) (pe_callB cr_lenQ (by rfl) B.len boot_len (pa_cons (pv 5) pa_nil)) (nomark _))) (fun _ _ _ _ _ => pv 8)) pa_nil))) po_none (po_some pe_int))) (pg_name (i := 10) sc.nd rfl (Or.inr rfl)) (pss_cons (ps_expr (pe_bm PySem.F.plainAttrs_list PySem.F.slot_list_append PySem.F.type_list_append mt_append (pv 9) (pa_cons (pe_lst (pa_cons (pe_call OA hr17 rfl mA kA bA .nil pass0 (pa_cons (pv 1) (pa_cons (pv 3) (pa_cons (pv 10) pa_nil)))) (pa_cons (pe_ix ix_list (pe_call OL hr2 rfl mL kL bL .nil pass0 (pa_cons (pv 3) (pa_cons (pv 10) pa_nil))) pe_int (fun _ _ => rfl)) pa_nil))) pa_nil)))
        (pss_cons (ps_asg (pe_call OL hr2 rfl mL kL bL .nil pass0 (pa_cons (pv 3) (pa_cons (pv 10) pa_nil))) (pg_lst rfl (pgs_cons (pg_name (i := 11) sc.nd rfl (Or.inl rfl)) (pgs_cons (pg_name (i := 12) sc.nd rfl (Or.inl rfl)) pgs_nil))))
        (pss_cons (ps_set (i := 13) sc.nd rfl (Or.inl rfl) (pe_lst (pa_cons (pe_call OA hr17 rfl mA kA bA .nil pass0 (pa_cons (pv 1) (pa_cons (pv 3) (pa_cons (pv 10) pa_nil)))) (pa_cons (pe_call OD hr17 rfl mD kD bD .nil pass0 (pa_cons (pv 1) (pa_cons (pv 3) (pa_cons (pv 10) pa_nil)))) pa_nil))))
        (pss_cons (ps_if (PW.pt (pw_or (pt_not (pt_val (pe_call OE hr4 rfl mE kE bE .nil pass0 (pa_cons (pv 13) (pa_cons (pe_lst (pa_cons (pv 11) (pa_cons (pv 12) pa_nil))) pa_nil)))))
            (pw_or (pt_cmpR op_ne (pe_bm PySem.F.plainAttrs_list PySem.F.slot_list_count PySem.F.type_list_count mt_countT (pe_lc (own := [("_law_way", 14), ("_law_one", 15)]) (g := gName 14) (tt := tYes) (te := tCB (rAll K) (tCons (tLc (iSq K 14) (gName 15) tYes (tOp (rIn K false) (tVar 15) (tVar 10)) [15]) tNil)) rfl sc.nd (pi_sq (pv 6))
                (blkOk_by (N := Nr) (sc := defScope sRight) (by decide +kernel)) (fun _ _ _ _ _ => pg_name (i := 14) sc.nd rfl (Or.inl rfl)) (fun _ _ _ _ _ => pts_nil)
                (fun _ _ _ _ _ => pe_callB (cr_all rfl) (by rfl) B.all (by decide +kernel) (pa_cons (pe_lc (own := [("_law_one", 15)]) (g := gName 15) (tt := tYes) rfl sc.nd (pi_sq (pv 14)) (blkOk_by (N := Nr) (sc := scW) (by decide +kernel)) (fun _ _ _ _ _ => pg_name (i := 15) sc.nd rfl (Or.inl rfl)) (fun _ _ _ _ _ => pts_nil)
                  (fun _ _ _ _ _ => pe_cmpR op_in_seq (pv 15) (pv 10) (by rfl))) pa_nil))) (pa_cons pe_bl pa_nil)) pe_int (nomark _))
            (pw_or1 (pt_not (pt_val (pe_call OB hr2 rfl mB kB bB .nil pass0 (pa_cons (pv 10) (pa_cons (pe_ix ix_list (pv 13) pe_int (fun _ _ => rfl)) pa_nil))))))))) (pss_one (ps_ret pe_bl)) pss_nil)
        (pss_cons (ps_expr (pe_bm PySem.F.plainAttrs_list PySem.F.slot_list_append PySem.F.type_list_append mt_append (pe_ix ix_list (pv 13) pe_int (fun _ _ => rfl)) (pa_cons pe_non pa_nil)))
        (pss_one (ps_if (pt_not (pt_val (pe_call OE hr4 rfl mE kE bE .nil pass0 (pa_cons (pe_call OA hr17 rfl mA kA bA .nil pass0 (pa_cons (pv 1) (pa_cons (pv 3) (pa_cons (pv 10) pa_nil)))) (pa_cons (pv 11) pa_nil))))) (pss_one (ps_ret pe_bl)) pss_nil)))))))
              · apply pss_cons
                · exact ps_if (pt_not (pt_val (pe_callB (cr_all rfl) (by rfl) B.all (by decide +kernel) (pa_cons (pe_lc (own := [("_law_mine", 16), ("_law_late", 17)]) (g := gLst K 2 (gCons (gName 16) (gCons (gName 17) gNil))) (tt := tYes) (te := tCall (spExact K 3) [] E0 (tCons (tVar 16) (tCons (tVar 17) tNil))) rfl sc.nd (pi_sq (pv 9)) (blkOk_by (N := Nr) (sc := defScope sRight) (by decide +kernel)) (fun _ _ _ _ _ => pg_lst rfl (pgs_cons (pg_name (i := 16) sc.nd rfl (Or.inl rfl)) (pgs_cons (pg_name (i := 17) sc.nd rfl (Or.inl rfl)) pgs_nil))) (fun _ _ _ _ _ => pts_nil) (fun _ _ _ _ _ => (pe_call OE hr4 rfl mE kE bE .nil pass0 (pa_cons (pv 16) (pa_cons (pv 17) pa_nil))))) pa_nil)))) (pss_one (ps_ret pe_bl)) pss_nil
                · apply pss_cons
                  · exact ps_expr (pe_bm PySem.F.plainAttrs_list PySem.F.slot_list_append PySem.F.type_list_append mt_append (pv 6) (pa_cons pe_non pa_nil))
                  · apply pss_cons
                    · exact ps_expr (pe_bm PySem.F.plainAttrs_list PySem.F.slot_list_append PySem.F.type_list_append mt_append (pv 7) (pa_cons pe_non pa_nil))
                    · exact pss_one (ps_ret (pe_call OE hr4 rfl mE kE bE .nil pass0 (pa_cons (pe_lst (pa_cons (pe_call OY hr17 rfl mY kY bY .nil pass0 (pa_cons (pv 1) (pa_cons (pv 3) pa_nil))) (pa_cons (pe_call OH hr18 rfl mH kH bH .nil pass0 (pa_cons (pv 1) (pa_cons (pv 3) pa_nil))) pa_nil))) (pa_cons (pe_lst (pa_cons (pv 4) (pa_cons (pe_lc (own := [("_law_part", 8)]) (g := gName 8) (tt := tYes) (te := tCB (rLenQ K) (tCons (tVar 8) tNil)) rfl sc.nd (pi_sq (pv 4)) (blkOk_by (N := Nr) (sc := defScope sRight) (by decide +kernel)) (fun _ _ _ _ _ => pg_name (i := 8) sc.nd rfl (Or.inl rfl)) (fun _ _ _ _ _ => pts_nil) (fun _ _ _ _ _ => pe_callB cr_lenQ (by rfl) B.len boot_len (pa_cons (pv 8) pa_nil))) pa_nil))) pa_nil))))
    have n6 := bk.nlen
    have nlo := bk.nlow
    have hK := KB.of (C := C) (M := M) (Keep.of (same_refl H)) hp
    refine ⟨_, rfl, (by show 0 ≤ sizeLine; decide), fun D0 nD0 => ?_⟩
    have s0 := same_new (o := .lst []) nD0
    refine ⟨v, D0, t, [], rfl, ht.same s0, gt, hd, upd_same, by show 0 + 6 ≤ 60; decide, by decide, List.nodup_nil, fun H1 qd rd s1 nr1 pr1 => ?_⟩
    obtain ⟨nqd, dq, hqd, rdq, edq⟩ := nr1
    have s01 := same_trans s0 s1
    refine ⟨_, rfl, a, ps, rfl, SqL.of (s01 _ _ ha), rows_same hw s01, fun r hr' => lit_litL (bk.lit hr'), ⟨c, Nat.lt_of_le_of_lt bk.n6 (by decide), fun y hy => bk.sub hy⟩, fun H2 qn ns s2 nqn hqn nm => ?_⟩
    have en := names_one nm bk.nm
    subst en
    have s02 := same_trans s01 s2
    refine ⟨(by show 2 ≤ sizeLine; decide), fun p3 np3 => ?_⟩
    have s3 := same_new (o := .tup [V.ref qd, V.ref qn]) np3
    have s03 := same_trans s02 s3
    refine ⟨p3, _, rfl, SqT.of upd_same, rfl, ?_⟩
    walk_at "go"
    generalize upd H2 p3 (.tup [V.ref qd, V.ref qn]) = H3 at s03 s3 ⊢
    have K3 := hK.same s03
    refine ⟨t, ⟨b, v, _, ns, rfl, hb.same s03, ht.same s03, gt, hd⟩, fun H4 qt rt k4 nr4 pr4 => ?_⟩
    obtain ⟨nqt, tq, hqt, rtq, etq⟩ := nr4
    have K4 := K3.keep k4
    refine ⟨_, rfl, _, rfl, t, ⟨b, v, _, ns, rfl, K4.book _ _ _ hb, K4.tree ht, gt, hd⟩, fun H5 qz rz k5 nqz hqz pr5 => ?_⟩
    have K5 := K4.keep k5
    refine ⟨_, _, rfl, ?_⟩
    refine ⟨_, rfl, _, rfl, _, rfl, a, ps, rfl, SqL.of (K5.lst ha nap), K5.rows hw, fun r hr' => ⟨(bk.good hr').1.cl bk.lo, Nat.lt_of_le_of_lt (bk.good hr').2.2 (by decide)⟩, Nat.lt_of_le_of_lt bk.few (by decide), ⟨c, Nat.le_trans bk.n6 (by decide), fun y hy => bk.sub hy⟩, fun H6 b2 ns2 s6 hb2 nm2 => ?_⟩
    have K6 := K5.same s6
    rw [bk.uni, names_one nm2 nm] at hb2
    refine ⟨_, rfl, t, ⟨b2, v, _, ns, rfl, hb2, K6.tree ht, gt, hd⟩, fun H7 qy ry k7 nqy hqy pr7 => ?_⟩
    have K7 := K6.keep k7
    refine ⟨(by show 3 ≤ sizeLine; decide), fun p8 np8 => ?_⟩
    have s8 := same_new (o := .lst [V.ref qt, V.ref qz, V.ref qy]) np8
    have h8 : (upd H7 p8 (.lst [V.ref qt, V.ref qz, V.ref qy])) p8 = some (.lst [V.ref qt, V.ref qz, V.ref qy]) := upd_same
    generalize upd H7 p8 (.lst [V.ref qt, V.ref qz, V.ref qy]) = H8 at s8 h8 ⊢
    have K8 := K7.same s8
    -- what is due, at H8
    have lts : dq.length ≤ 64 := by
      have h1 := ways_len (part := []) (t := t) hd
      have h2 := pr1.length
      rw [← edq, List.length_map] at h2
      have : (2 : Nat) ^ 6 = 64 := rfl
      omega
    have k38 : Keep C M H3 H8 := k4.trans (k5.trans ((Keep.of s6).trans (k7.trans (Keep.of s8))))
    have s13 := same_trans s2 s3
    have hqd3 : H3 qd = some (.lst (refs dq)) := s13 _ _ hqd
    have rdq3 : RowsAt H3 dq := rows_same rdq s13
    refine ⟨_, rfl, ?_⟩
    refine lens_run rfl (fun _ => rfl) (fun _ => rfl) (k38.lst hqd3) (k38.rows rdq3) lts (fun H9 qa s9 nqa hqa => ?_)
    refine lens_run rfl (fun _ => rfl) (fun _ => rfl) ((k38.trans (Keep.of s9)).lst hqd3) ((k38.trans (Keep.of s9)).rows rdq3) lts (fun H10 qb s10 nqb hqb => ?_)
    refine ⟨(by show 3 ≤ sizeLine; decide), fun p11 np11 => ?_⟩
    have s11 := same_new (o := .lst [V.ref qd, V.ref qa, V.ref qb]) np11
    have h11 : (upd H10 p11 (.lst [V.ref qd, V.ref qa, V.ref qb])) p11 = some (.lst [V.ref qd, V.ref qa, V.ref qb]) := upd_same
    generalize upd H10 p11 (.lst [V.ref qd, V.ref qa, V.ref qb]) = H11 at s11 h11 ⊢
    have s8_11 := same_trans s9 (same_trans s10 s11)
    have k3_11 : Keep C M H3 H11 := k38.trans (Keep.of s8_11)
    have k4_11 : Keep C M H4 H11 := k5.trans ((Keep.of s6).trans (k7.trans ((Keep.of s8).trans (Keep.of s8_11))))
    have k5_11 : Keep C M H5 H11 := (Keep.of s6).trans (k7.trans ((Keep.of s8).trans (Keep.of s8_11)))
    have k7_11 : Keep C M H7 H11 := (Keep.of s8).trans (Keep.of s8_11)
    have er : dq.map (·.2) = tq.map (·.2) := by
      rw [edq, etq]
      exact ords_uniq pr1 pr4
    have erz : dq.map (·.2) = rz := by
      rw [edq]
      exact ords_uniq pr1 pr5
    have ery : dq.map (·.2) = ry := by
      rw [edq]
      exact ords_uniq pr1 pr7
    have dshort : ∀ r ∈ dq, r.2.length < 1000 := fun r hr' => by
      have h1 : r.2 ∈ rd := edq ▸ List.mem_map.mpr ⟨r, hr', rfl⟩
      obtain ⟨w, hw1, hw2⟩ := prd_mem pr1 h1
      have h2 := ways_short (t := t) (part := []) w hw1
      have h3 := hw2.le
      have h4 : ([] : List Str).length = 0 := rfl
      omega
    have tshort : ∀ r ∈ tq, r.2.length < 1000 := fun r hr' => by
      have h1 : r.2 ∈ dq.map (·.2) := er ▸ List.mem_map.mpr ⟨r, hr', rfl⟩
      obtain ⟨x, hx, e⟩ := List.mem_map.mp h1
      rw [← e]
      exact dshort x hx
    have ltq : tq.length = dq.length := by
      have := congrArg List.length er
      rw [List.length_map, List.length_map] at this
      exact this.symm
    have elz : (rz.map fun r => V.int (r.length : Nat)) = (dq.map fun r => ((r.2.length : Nat) : Int)).map V.int := by
      rw [← erz, List.map_map, List.map_map]
      rfl
    have ely : (ry.map fun r => V.int (r.length : Nat)) = (dq.map fun r => ((r.2.length : Nat) : Int)).map V.int := by
      rw [← ery, List.map_map, List.map_map]
      rfl
    have ldi : (dq.map fun r => ((r.2.length : Nat) : Int)).length < 1000 := by
      rw [List.length_map]
      omega
    refine ⟨_, _, rfl, ex_3' (d := 2) (s8_11 _ _ h8) h11 (ex_rowsL (SqL.of (k4_11.lst hqt)) (SqL.of (k3_11.lst hqd3)) (k4_11.rows rtq) (k3_11.rows rdq3) er.symm (by omega) tshort)
      (ex_intL (d := 1) (SqL.of (k5_11.lst (elz ▸ hqz))) (SqL.of ((same_trans s10 s11) _ _ hqa)) ldi) (ex_intL (d := 1) (SqL.of (k7_11.lst (ely ▸ hqy))) (SqL.of (s11 _ _ hqb)) ldi), fun H12 s12 => ?_⟩
    have K12 : KB C M p H H12 := (K8.same s8_11).same s12
    refine ⟨_, rfl, iteF ?_⟩
    refine ⟨(by show 0 ≤ sizeLine; decide), fun F nF => ?_⟩
    have sF := same_new (o := .lst []) nF
    have hF : (upd H12 F (.lst [])) F = some (.lst []) := upd_same
    generalize upd H12 F (.lst []) = H13 at sF hF ⊢
    have K13 := K12.same sF
    have k3_13 : Keep C M H3 H13 := k3_11.trans ((Keep.of s12).trans (Keep.of sF))
    have hqn3 : H3 qn = some (.lst (ns.map V.str)) := s3 _ _ hqn
    have nnd := bk.nm.nd
    have pnF : p ≠ F := by
      obtain ⟨l1, e1⟩ := K12.p1
      exact ne_of_none e1 nF
    have hp3 := s03 _ _ hp
    refine ⟨_, rfl, ?_⟩
    refine whole_run rfl (fun _ => rfl) (fun _ => rfl) (fun _ => rfl) (k3_13.lst hqn3) n6 nnd nlo (fun H15 D' wq s15 nD' h15 rwq lfw hwq => ?_)
    have K15 := K13.same s15
    have k3_15 : Keep C M H3 H15 := k3_13.trans (Keep.of s15)
    have hp15 := k3_15.lst hp3
    have nDp : D' ≠ p := (ne_of_none (k3_13.lst hp3) nD').symm
    refine ⟨p, D', n, l, refs wq, rfl, hp15, hl, by omega, SqL.of h15, nDp, by rw [refs, List.length_map]; omega, fun H16 q16 l' ys b16 hp16 hl' nq16 hq16 pm => ?_⟩
    refine ⟨_, rfl, ?_⟩
    refine ⟨q16, ys, rfl, SqL.of hq16, fun q17 n17 => ?_⟩
    have s17 := same_new (o := .lst (cutV ys none (some 9))) n17
    have hq17 : (upd H16 q17 (.lst (cutV ys none (some 9)))) q17 = some (.lst (cutV ys none (some 9))) := upd_same
    generalize upd H16 q17 (.lst (cutV ys none (some 9))) = H17 at s17 hq17 ⊢
    have hp17 := s17 _ _ hp16
    have K17 : KB C M p H H17 := (K15.but b16 hp16).same s17
    have J3 : KB C M p H3 H17 := ((KB.of k3_15 hp3).but b16 hp16).same s17
    have hp4 := k4.lst hp3
    have k4_15 : Keep C M H4 H15 := k4_11.trans ((Keep.of s12).trans ((Keep.of sF).trans (Keep.of s15)))
    have J4 : KB C M p H4 H17 := ((KB.of k4_15 hp4).but b16 hp16).same s17
    have hp5 := k5.lst hp4
    have k5_15 : Keep C M H5 H15 := k5_11.trans ((Keep.of s12).trans ((Keep.of sF).trans (Keep.of s15)))
    have J5 : KB C M p H5 H17 := ((KB.of k5_15 hp5).but b16 hp16).same s17
    have J13 : KB C M p H13 H17 := ((KB.of (Keep.of s15) (k3_13.lst hp3)).but b16 hp16).same s17
    have J15 : KB C M p H15 H17 := ((KB.of (Keep.of (same_refl _)) hp15).but b16 hp16).same s17
    have ndp : qd ≠ p := (ne_of_none (s0 _ _ hp) nqd).symm
    have nnp : qn ≠ p := (ne_of_none (s01 _ _ hp) nqn).symm
    have ntp : qt ≠ p := (ne_of_none hp3 nqt).symm
    have nzp : qz ≠ p := (ne_of_none hp4 nqz).symm
    have hF17 : H17 F = some (.lst []) := J13.lst hF pnF.symm
    have ndF : qd ≠ F := ne_of_none ((k3_11.trans (Keep.of s12)).lst hqd3) nF
    have nnF : qn ≠ F := ne_of_none ((k3_11.trans (Keep.of s12)).lst hqn3) nF
    have ntF : qt ≠ F := ne_of_none ((k4_11.trans (Keep.of s12)).lst hqt) nF
    have nzF : qz ≠ F := ne_of_none ((k5_11.trans (Keep.of s12)).lst hqz) nF
    have nqF : q17 ≠ F := (ne_of_none (b16 _ _ (s15 _ _ hF) pnF.symm) n17).symm
    have hqd17 := J3.lst hqd3 ndp
    have rdq17 := J3.rows rdq3
    have hqt17 := J4.lst hqt ntp
    have rtq17 := J4.rows rtq
    have hqz17 := J5.lst (elz ▸ hqz) nzp
    have rwq17 := J15.rows rwq
    have hb17 := K17.book _ _ _ hb
    have ht17 := K17.tree ht
    have lys : ys.length ≤ 64 := by
      rw [pm.length_eq, refs, List.length_map]
      exact lfw
    have lcut : (cutV ys none (some 9)).length ≤ 64 := Nat.le_trans (cut_le ys) lys
    refine ⟨q17, rfl, ⟨_, SqL.of hq17⟩, ?_⟩
    refine for_list (K := K) (a := q17) (xs := cutV ys none (some 9)) (fun i σ H2 => i ≤ (cutV ys none (some 9)).length ∧ KB C M F H17 H2 ∧ (∃ fs : List Addr, H2 F = some (.lst (fs.map V.ref)) ∧ fs.length ≤ i ∧ ∀ f ∈ fs, Like H2 F f) ∧ ∃ x10 x11 x12 x13 : Option V, σ = [some (.ref p), some (.ref b), some (.ref a), some v, some (.ref qd), some (.ref qn), some (.ref qt), some (.ref qz), none, some (.ref F), x10, x11, x12, x13, none, none, none, none]) ?_ ?_ ?_ ?_
    · exact ⟨Nat.zero_le _, KB.of (Keep.of (same_refl _)) hF17, ⟨[], hF17, Nat.le_refl _, fun f hf => nomatch hf⟩, none, none, none, none, rfl⟩
    · rintro i σ H2 hi ⟨_, kk, _⟩
      exact SqL.of (kk.lst hq17 nqF)
    · rintro i x σ H2 hx ⟨hi, kk, ⟨fs, hfs, lfs, alike⟩, x10, x11, x12, x13, rfl⟩
      obtain ⟨r, hr', rfl⟩ := List.mem_map.mp (pm.mem_iff.mp (mem_cut (List.mem_of_getElem? hx)))
      obtain ⟨gr, lr⟩ := hwq r hr'
      have hi2 : i < (cutV ys none (some 9)).length := (List.getElem?_eq_some_iff.mp hx).1
      have full := full_of gr nlo lr
      have subr : ∀ y ∈ r.2, bareS y ∈ ns := fun y hy => by
        obtain ⟨s, hs, sg⟩ := gr.lit y hy
        rw [sg.bare (List.all_eq_true.mp nlo s hs)]
        exact hs
      have cl17 : ClAt K H17 r.1 r.2 := ⟨SqT.of (rwq17 r hr'), gr.cl nlo, by rw [lr]; omega⟩
      have ht2 := kk.tree ht17
      have hb2' := kk.book _ _ _ hb17
      have cl2 : ClAt K H2 r.1 r.2 := ⟨SqT.of (kk.tup (rwq17 r hr')), cl17.2⟩
      have lask : (t.asks r.2).length ≤ 6 := Nat.le_trans (asks_len t) hd
      -- firsts.append
      refine ⟨_, rfl, .inl ⟨rfl, _, SqL.of hfs⟩, ?_⟩
      refine ⟨_, rfl, _, rfl, _, rfl, t, r.2, ⟨b, r.1, v, _, ns, rfl, hb2', ht2, gt, hd, cl2, subr, lr⟩, fun H18 m k18 nm18 hm18 => ?_⟩
      have K18 := kk.keep k18
      refine ⟨_, rfl, _, rfl, v, r.1, t, r.2, rfl, k18.tree ht2, hd, k18.sqT cl2.1, fun H19 q19 D19 z19 s19 nq19 nD19 hq19 hD19 hz19 => ?_⟩
      have K19 := K18.same s19
      refine ⟨q19, _, 0, _, rfl, rfl, SqL.of hq19, rfl, ?_⟩
      refine ⟨(by show 2 ≤ sizeLine; decide), fun f20 nf20 => ?_⟩
      have s20 := same_new (o := .lst [V.ref m, V.ref D19]) nf20
      have hf20 : (upd H19 f20 (.lst [V.ref m, V.ref D19])) f20 = some (.lst [V.ref m, V.ref D19]) := upd_same
      generalize upd H19 f20 (.lst [V.ref m, V.ref D19]) = H20 at s20 hf20 ⊢
      have K20 := K19.same s20
      have hF18 := k18.lst hfs
      have hF20 := s20 _ _ (s19 _ _ hF18)
      refine ⟨F, _, _, rfl, rfl, hF20, by rw [List.length_map, sizeLine_eq]; omega, ?_⟩
      have hF21 : (upd H20 F (.lst (fs.map V.ref ++ [V.ref f20]))) F = some (.lst (fs.map V.ref ++ [V.ref f20])) := upd_same
      have b21 : But F H20 (upd H20 F (.lst (fs.map V.ref ++ [V.ref f20]))) := But.set
      generalize upd H20 F (.lst (fs.map V.ref ++ [V.ref f20])) = H21 at hF21 b21 ⊢
      have K21 := K20.but b21 hF21
      have K2_21 : KB C M F H2 H21 := (((KB.of k18 hfs).same s19).same s20).but b21 hF21
      have mF : m ≠ F := (ne_of_none hfs nm18).symm
      have DF : D19 ≠ F := (ne_of_none hF18 nD19).symm
      have fF : f20 ≠ F := (ne_of_none (s19 _ _ hF18) nf20).symm
      have like21 : ∀ f ∈ fs ++ [f20], Like H21 F f := fun f hf => by
        rcases List.mem_append.mp hf with hf | hf
        · exact (alike f hf).kb K2_21
        · rw [List.mem_singleton.mp hf]
          exact ⟨m, D19, t.asks r.2, b21 _ _ hf20 fF, b21 _ _ (s20 _ _ (s19 _ _ hm18)) mF, b21 _ _ (s20 _ _ hD19) DF, mF, DF, fF, lask⟩
      have ht21 := K21.tree ht17
      have hb21 := K21.book _ _ _ hb17
      have cl21 : ClAt K H21 r.1 r.2 := ⟨SqT.of (K21.tup (rwq17 r hr')), cl17.2⟩
      -- asked, leaf
      refine ⟨_, rfl, _, rfl, v, r.1, t, r.2, rfl, ht21, hd, cl21.1, fun H22 q22 D22 z22 s22 nq22 nD22 hq22 hD22 hz22 => ?_⟩
      refine ⟨q22, _, rfl, SqL.of hq22, rfl, ?_⟩
      walk_at "go"
      have K22 := K21.same s22
      -- some
      refine ⟨t, r.2, ⟨b, r.1, v, _, ns, rfl, K22.book _ _ _ hb17, K22.tree ht17, gt, hd, ⟨sqT_same cl21.1 s22, cl17.2⟩, subr, lr⟩, fun H23 m23 k23 nm23 hm23 => ?_⟩
      have K23 := K22.keep k23
      refine ⟨_, rfl, _, rfl, _, rfl, t, r.2, ⟨b, r.1, v, _, ns, rfl, K23.book _ _ _ hb17, K23.tree ht17, gt, hd, ⟨k23.sqT (sqT_same cl21.1 s22), cl17.2⟩, subr, lr⟩, fun H24 z24 k24 hz24 => ?_⟩
      have K24 := K23.keep k24
      refine ⟨(by show 2 ≤ sizeLine; decide), fun f25 nf25 => ?_⟩
      have s25 := same_new (o := .lst [V.ref m23, z24]) nf25
      have hf25 : (upd H24 f25 (.lst [V.ref m23, z24])) f25 = some (.lst [V.ref m23, z24]) := upd_same
      generalize upd H24 f25 (.lst [V.ref m23, z24]) = H25 at s25 hf25 ⊢
      have K25 := K24.same s25
      obtain ⟨a24, rfl, h24, l24, n24⟩ := hz24
      obtain ⟨a22, rfl, h22, l22, n22⟩ := hz22
      have k22_25 : Keep C M H22 H25 := k23.trans (k24.trans (Keep.of s25))
      dsimp only [gName, List.set]
      refine ⟨_, rfl, _, rfl, _, rfl, (by show 2 ≤ sizeLine; decide), fun p26 np26 => ?_⟩
      have s26 := same_new (o := .lst [V.ref D22, V.ref a22]) np26
      have h26 : (upd H25 p26 (.lst [V.ref D22, V.ref a22])) p26 = some (.lst [V.ref D22, V.ref a22]) := upd_same
      generalize upd H25 p26 (.lst [V.ref D22, V.ref a22]) = H26 at s26 h26 ⊢
      have m26 := s26 _ _ (s25 _ _ (k24.lst hm23))
      have d26 := s26 _ _ (k22_25.lst hD22)
      refine ⟨_, _, rfl, ex_2 (d := 2) (s26 _ _ hf25) h26 (ex_strL (SqL.of m26) (SqL.of d26) (by omega)) (ex_strT (SqT.of (s26 _ _ (s25 _ _ h24))) (SqT.of (s26 _ _ (k22_25.tup h22))) (by omega)), fun H27 s27 => ?_⟩
      refine ⟨_, rfl, iteF ?_⟩
      -- count
      have s25_27 := same_trans s26 s27
      have K27 := K25.same s25_27
      dsimp only [tOr, tTest, tOp, tBM]
      refine count_run (K27.lst hqt17 ntF) (K27.rows rtq17) (by omega) tshort (SqT.of (K27.tup (rwq17 r hr'))) (fun H28 D28 s28 nD28 hD28 => ?_)
      refine ⟨.inl ⟨rfl, _, SqL.of hD28⟩, ?_⟩
      refine ⟨D28, _, rfl, rfl, SqL.of hD28, ?_⟩
      refine ⟨rfl, ?_⟩
      have ecnt : (tq.map fun r' => inAll r.2 r'.2).countP id = 1 := by
        have h1 := count_ord (ys := r.2) pr4
        rw [way_one full gt (by rfl), ← etq, List.countP_map] at h1
        rw [List.countP_map]
        exact h1
      refine ⟨false, by rw [ecnt]; rfl, iteF ?_⟩
      obtain ⟨bdown, mdown⟩ := down_breaks full gt (by rfl)
      have gdown : Good c (t.down r.2) ∧ 1 ≤ (t.down r.2).length ∧ (t.down r.2).length ≤ 6 := bk.gd _ mdown
      have s25_28 := same_trans s25_27 s28
      refine ⟨_, rfl, _, rfl, f25, _, 1, _, rfl, rfl, SqL.of (s25_28 _ _ hf25), rfl, r.1, a24, r.2, t.down r.2, rfl, .inr (sqT_same (SqT.of (K25.tup (rwq17 r hr'))) s25_28), .inr (SqT.of (s25_28 _ _ (s25 _ _ h24))), by rw [sizeLine_eq]; omega, lit_litL l24, fun H29 s29 => ?_⟩
      rw [bdown]
      refine ⟨_, rfl, iteF ?_⟩
      -- some[0].append(None)
      have s25_29 := same_trans s25_28 s29
      have m29 := s25_29 _ _ (s25 _ _ (k24.lst hm23))
      refine ⟨_, rfl, f25, _, 0, _, rfl, rfl, SqL.of (s25_29 _ _ hf25), rfl, .inl ⟨rfl, _, SqL.of m29⟩, ?_⟩
      refine ⟨m23, _, _, rfl, rfl, m29, by rw [List.length_map, sizeLine_eq]; omega, ?_⟩
      have K29 := K25.same s25_29
      have K21_29 : KB C M F H21 H29 := ((((((KB.of (Keep.of s22) hF21).keep k23).keep k24).same s25).same s25_29))
      have n17m : H17 m23 = none := K22.free nm23
      have n21m : H21 m23 = none := same_free s22 nm23
      have hF22 := s22 _ _ hF21
      have mF' : F ≠ m23 := ne_of_none hF22 nm23
      have hF29 := s25_29 _ _ (s25 _ _ (k24.lst (k23.lst hF22)))
      have K30 := K29.setL (l' := (t.asks r.2).map V.str ++ [V.non]) n17m m29
      have K21_30 := K21_29.setL (l' := (t.asks r.2).map V.str ++ [V.non]) n21m m29
      have hF30 : (upd H29 m23 (.lst ((t.asks r.2).map V.str ++ [V.non]))) F = some (.lst (fs.map V.ref ++ [V.ref f20])) := by
        rw [upd_ne mF']
        exact hF29
      have hD30 : (upd H29 m23 (.lst ((t.asks r.2).map V.str ++ [V.non]))) D22 = some (.lst ((t.asks r.2).map V.str)) := by
        rw [upd_ne (ne_of_none hD22 nm23)]
        exact s25_29 _ _ (k22_25.lst hD22)
      generalize upd H29 m23 (.lst ((t.asks r.2).map V.str ++ [V.non])) = H30 at K30 K21_30 hF30 hD30 ⊢
      refine ⟨_, rfl, _, rfl, _, rfl, t, r.2, ⟨b, r.1, v, _, ns, rfl, K30.book _ _ _ hb17, K30.tree ht17, gt, hd, ⟨SqT.of (K30.tup (rwq17 r hr')), cl17.2⟩, subr, lr⟩, fun H31 m31 k31 nm31 hm31 => ?_⟩
      refine ⟨_, rfl, ?_⟩
      refine ⟨_, _, rfl, ex_strL (d := 2) (SqL.of hm31) (SqL.of (k31.lst hD30)) (by omega), fun H32 s32 => ?_⟩
      refine ⟨_, rfl, iteF ?_⟩
      refine ⟨hi2, (K30.keep k31).same s32, ⟨fs ++ [f20], ?_, ?_, fun f hf => (like21 f hf).kb ((K21_30.keep k31).same s32)⟩, _, _, _, _, rfl⟩
      · rw [s32 _ _ (k31.lst hF30), List.map_append]
        rfl
      · rw [List.length_append, List.length_singleton]
        omega
    · rintro σ H2 ⟨_, kk, ⟨fs, hfs, lfs, alike⟩, x10, x11, x12, x13, rfl⟩
      have Kd : KB C M p H H2 := K17.drop kk (K12.free nF)
      have hqt2 := kk.lst hqt17 ntF
      have hqz2 := kk.lst hqz17 nzF
      have hqd2 := kk.lst hqd17 ndF
      have hp2 := kk.lst hp17 pnF
      have rdq2 := kk.rows rdq17
      dsimp only [tSeq, tIfS, tNot, tB, tCB, tCons, tNil]
      refine seq_lc (fun _ => some (.bl true)) rfl (.inl (SqL.of hfs)) (by rw [List.length_map, sizeLine_eq]; omega) (fun x H3 Ψ Θ hx s3 yes no => ?_) (fun H3 D s3 nD h3 => ?_)
      · obtain ⟨f, hf, rfl⟩ := List.mem_map.mp hx
        obtain ⟨m, q, zs, h1, h2, h4, n1, n2, n3, lz⟩ := alike f hf
        refine ⟨f, _, rfl, SqL.of (s3 _ _ h1), rfl, ?_⟩
        refine ⟨_, _, rfl, _, _, rfl, rfl, ?_⟩
        refine ⟨rfl, ?_⟩
        refine ⟨_, rfl, _, rfl, _, _, rfl, ex_strL (d := 2) (SqL.of (s3 _ _ h2)) (SqL.of (s3 _ _ h4)) (by omega), fun H5 s5 => yes _ H5 rfl s5⟩
      refine all_done (xs := fs.map V.ref) (b := fun _ => true) h3 ?_
      rw [show (fs.map V.ref).all (fun _ => true) = true by simp]
      refine ⟨_, rfl, iteF ?_⟩
      have t3 := s3 _ _ hqt2
      refine ⟨_, rfl, .inl ⟨rfl, _, SqL.of t3⟩, ?_⟩
      refine ⟨qt, _, _, rfl, rfl, t3, by rw [refs, List.length_map, sizeLine_eq]; omega, ?_⟩
      have ntz : qz ≠ qt := (ne_of_none hqt nqz).symm
      have ndt : qd ≠ qt := ne_of_none hqd3 nqt
      have ndz : qd ≠ qz := ne_of_none (k4.lst hqd3) nqz
      have Ku3 := Kd.same s3
      have Ku4 := Ku3.setL (l' := refs tq ++ [V.non]) (K3.free nqt) t3
      have z4 : (upd H3 qt (.lst (refs tq ++ [V.non]))) qz = some (.lst ((dq.map fun r => ((r.2.length : Nat) : Int)).map V.int)) := by
        rw [upd_ne ntz]
        exact s3 _ _ hqz2
      have d4 : (upd H3 qt (.lst (refs tq ++ [V.non]))) qd = some (.lst (refs dq)) := by
        rw [upd_ne ndt]
        exact s3 _ _ hqd2
      have p4 : (upd H3 qt (.lst (refs tq ++ [V.non]))) p = some (.lst l') := by
        rw [upd_ne ntp.symm]
        exact s3 _ _ hp2
      have r4 : RowsAt (upd H3 qt (.lst (refs tq ++ [V.non]))) dq := fun x hx => by
        rw [upd_ne (ne_of (s3 _ _ (rdq2 x hx)) t3 (by intro z; cases z))]
        exact s3 _ _ (rdq2 x hx)
      generalize upd H3 qt (.lst (refs tq ++ [V.non])) = U4 at Ku4 z4 d4 p4 r4 ⊢
      refine ⟨_, rfl, .inl ⟨rfl, _, SqL.of z4⟩, ?_⟩
      refine ⟨qz, _, _, rfl, rfl, z4, by rw [List.length_map, List.length_map, sizeLine_eq]; omega, ?_⟩
      have Ku5 := Ku4.setL (l' := (dq.map fun r => ((r.2.length : Nat) : Int)).map V.int ++ [V.non]) (K4.free nqz) z4
      have d5 : (upd U4 qz (.lst ((dq.map fun r => ((r.2.length : Nat) : Int)).map V.int ++ [V.non]))) qd = some (.lst (refs dq)) := by
        rw [upd_ne ndz]
        exact d4
      have p5 : (upd U4 qz (.lst ((dq.map fun r => ((r.2.length : Nat) : Int)).map V.int ++ [V.non]))) p = some (.lst l') := by
        rw [upd_ne nzp.symm]
        exact p4
      have r5 : RowsAt (upd U4 qz (.lst ((dq.map fun r => ((r.2.length : Nat) : Int)).map V.int ++ [V.non]))) dq := fun x hx => by
        rw [upd_ne (ne_of (r4 x hx) z4 (by intro z; cases z))]
        exact r4 x hx
      generalize upd U4 qz (.lst ((dq.map fun r => ((r.2.length : Nat) : Int)).map V.int ++ [V.non])) = U5 at Ku5 d5 p5 r5 ⊢
      refine ⟨_, rfl, _, rfl, t, ⟨b, v, _, ns, rfl, Ku5.book _ _ _ hb, Ku5.tree ht, gt, hd⟩, fun U6 g6 rt6 k6 nr6 pr6 => ?_⟩
      obtain ⟨ng6, tq6, hg6, rtq6, etq6⟩ := nr6
      have Ku6 := Ku5.keep k6
      refine ⟨_, rfl, _, rfl, t, ⟨b, v, _, ns, rfl, Ku6.book _ _ _ hb, Ku6.tree ht, gt, hd⟩, fun U7 g7 rz7 k7 ng7 hg7 pr7' => ?_⟩
      have Ku7 := Ku6.keep k7
      have er6 : dq.map (·.2) = tq6.map (·.2) := by
        rw [edq, etq6]
        exact ords_uniq pr1 pr6
      have er7 : dq.map (·.2) = rz7 := by
        rw [edq]
        exact ords_uniq pr1 pr7'
      have el7 : (rz7.map fun r => V.int (r.length : Nat)) = (dq.map fun r => ((r.2.length : Nat) : Int)).map V.int := by
        rw [← er7, List.map_map, List.map_map]
        rfl
      have ltq6 : tq6.length = dq.length := by
        have := congrArg List.length er6
        rw [List.length_map, List.length_map] at this
        exact this.symm
      have tshort6 : ∀ r ∈ tq6, r.2.length < 1000 := fun r hr' => by
        have h1 : r.2 ∈ dq.map (·.2) := er6 ▸ List.mem_map.mpr ⟨r, hr', rfl⟩
        obtain ⟨x, hx, e⟩ := List.mem_map.mp h1
        rw [← e]
        exact dshort x hx
      refine ⟨(by show 2 ≤ sizeLine; decide), fun g8 ng8 => ?_⟩
      have v8 := same_new (o := .lst [V.ref g6, V.ref g7]) ng8
      have hg8 : (upd U7 g8 (.lst [V.ref g6, V.ref g7])) g8 = some (.lst [V.ref g6, V.ref g7]) := upd_same
      generalize upd U7 g8 (.lst [V.ref g6, V.ref g7]) = U8 at v8 hg8 ⊢
      have k58 : Keep C M U5 U8 := k6.trans (k7.trans (Keep.of v8))
      refine ⟨_, rfl, ?_⟩
      refine lens_run rfl (fun _ => rfl) (fun _ => rfl) (k58.lst d5) (k58.rows r5) lts (fun U9 g9 v9 ng9 hg9 => ?_)
      refine ⟨(by show 2 ≤ sizeLine; decide), fun g10 ng10 => ?_⟩
      have v10 := same_new (o := .lst [V.ref qd, V.ref g9]) ng10
      have hg10 : (upd U9 g10 (.lst [V.ref qd, V.ref g9])) g10 = some (.lst [V.ref qd, V.ref g9]) := upd_same
      generalize upd U9 g10 (.lst [V.ref qd, V.ref g9]) = U10 at v10 hg10 ⊢
      have v8_10 := same_trans v9 v10
      have k5_10 : Keep C M U5 U10 := k58.trans (Keep.of v8_10)
      have k6_10 : Keep C M U6 U10 := k7.trans ((Keep.of v8).trans (Keep.of v8_10))
      refine ⟨_, _, rfl, ex_2 (d := 2) (v8_10 _ _ hg8) hg10 (ex_rowsL (SqL.of (k6_10.lst hg6)) (SqL.of (k5_10.lst d5)) (k6_10.rows rtq6) (k5_10.rows r5) er6.symm (by omega) tshort6)
        (ex_intL (d := 1) (SqL.of ((same_trans v8 v8_10) _ _ (el7 ▸ hg7))) (SqL.of (v10 _ _ hg9)) ldi), fun U11 v11 => ?_⟩
      refine k U11 l' (((Ku5.keep k5_10)).same v11) (v11 _ _ (k5_10.lst p5)) (hl'.mono ?_)
      rw [refs, List.length_map]
      omega
end
end My
end

section
set_option Elab.async false
set_option linter.all false
set_option maxRecDepth 100000
set_option maxHeartbeats 4000000
namespace My
local macro_rules | `(tactic| walk_at "go") => `(tactic| (repeat (first
  | (refine ⟨_, rfl, ?_⟩)
  | (refine ⟨_, _, rfl, rfl, ?_⟩)
  | (refine ⟨_, _, rfl, ?_⟩)
  | (refine ⟨rfl, ?_⟩)
  | (refine Or.inl ⟨_, rfl, ?_⟩)
  | (refine ⟨_, _, _, _, rfl, rfl, L2.SqL.of (by first | assumption | exact L2.upd_same), rfl, ?_⟩)
  | (refine ⟨_, _, _, _, rfl, rfl, (by first | assumption | exact L2.upd_same), rfl, ?_⟩)
  | (refine And.intro (by first | omega | decide | (unfold L2.CPow; decide) | (unfold L2.CMul; omega) | (unfold L2.CDiv; omega)) ?_))))
open PySem PySem.Spec PyProof.Rows L2 TL MyF MyS MyW RZ MyR MyT MyQ MyV MyZ
def spOwnA (K : PySem.W.Frag) : Sp := fun vs H Q E => ∃ (ps : List Rs) (nn c : List Str), Bk ps nn c ∧ spOwn K ps nn 6 vs H Q E
def teOwn (K : PySem.W.Frag) : TE := tCall (spOwnA K) [] E0 (tCons (tVar 1) (tCons (tOp (rIxL K) (tVar 2) (tVar 5)) (tCons (tLst tNil) (tCons (tVar 6) tNil))))
def teRight (K : PySem.W.Frag) (C M : Addr) : TE := tCall (spRight K C M) [] E0 (tCons (tVar 1) (tCons (tOp (rIxL K) (tVar 4) (tVar 5)) (tCons (tOp (rIxL K) (tVar 2) (tVar 5)) (tCons (tVar 8) tNil))))
section
variable {P : Program} {w : World} {K : PySem.W.Frag} {mg : Str → Option Value} {base : Heap}
theorem trees_run {sq p B r1 r2 rk : Addr} {m : V} {x7 : Option V} {j n : Int} {l : List V} {ps : List Rs} {nn c : List Str} {H : Hp} {Q : VK} (hp : H p = some (.lst l)) (hl : PurseL n l) (hn : n ≤ 700000) (hB : H B = some (.lst [.ref r1, .ref r2])) (nB : B ≠ p) (hj : atI [V.ref r1, V.ref r2] j = some (.ref rk)) (hrk : H rk = some (.lst (refs ps))) (nrk : rk ≠ p) (hw : RowsAt H ps) (bk : Bk ps nn c)
    (k : ∀ (H' : Hp) (D : Addr) (l' : List V) (vs : List V), But p H H' → H' p = some (.lst l') → PurseL (n + 600) l' → H D = none → H' D = some (.lst vs) → vs.length = 2 → (∀ v ∈ vs, ∃ t, TrAt H' v t ∧ GoodT (ps.map (·.2)) nn [] t ∧ t.dep ≤ 6) → Q (.ref D) H') :
    tLc (iTup K (tTup (tCons (tC (.bl false)) (tCons (tC (.bl true)) tNil)))) (gName 6) tYes (teOwn K) [6] [some (.ref sq), some (.ref p), some (.ref B), none, some m, some (.int j), none, x7, none] H Q := by
  refine ⟨(by show 2 ≤ sizeLine; decide), fun T nT => ?_⟩
  have sT := same_new (o := .tup [V.bl false, V.bl true]) nT
  have hT : (upd H T (.tup [V.bl false, V.bl true])) T = some (.tup [V.bl false, V.bl true]) := upd_same
  generalize upd H T (.tup [V.bl false, V.bl true]) = H1 at sT hT ⊢
  refine ⟨T, rfl, ⟨_, SqT.of hT⟩, fun D nD => ?_⟩
  have hp1 := sT _ _ hp
  have nDp : D ≠ p := (ne_of_none hp1 nD).symm
  have TD : T ≠ D := ne_of_none hT nD
  have Tp : T ≠ p := ne_of hT hp1 (by intro z; cases z)
  refine lc_it (walk_tup (a := T) (xs := [V.bl false, V.bl true])) (g := gName 6) (tt := tYes) (te := teOwn K) (vs := [6]) (Qd := fun H2 => Q (.ref D) H2) (fun i H2 => ∃ (l' : List V) (vs : List V), But p H1 H2 ∧ H2 p = some (.lst l') ∧ PurseL (n + 254 * (i : Int)) l' ∧ H2 D = some (.lst vs) ∧ vs.length = i ∧ i ≤ 2 ∧ ∀ v ∈ vs, ∃ t, TrAt H2 v t ∧ GoodT (ps.map (·.2)) nn [] t ∧ t.dep ≤ 6) ?_ ?_ ?_ ?_
  · exact ⟨l, [], .of (same_new nD), (same_new nD) _ _ hp1, by simpa using hl, upd_same, rfl, Nat.zero_le _, fun v hv => nomatch hv⟩
  · rintro i H2 hi ⟨l', vs, bu, _⟩
    exact SqT.of (bu _ _ hT Tp)
  · rintro i x H2 H3 hi ⟨l', vs, bu, hp2, hl2, hD, len, i2, al⟩ y
    obtain ⟨rfl, hx⟩ := y
    have hi' : i < 2 := hi
    obtain ⟨late, rfl⟩ : ∃ late, x = V.bl late := by
      have := List.mem_of_getElem? hx
      rcases List.mem_cons.mp this with rfl | this
      · exact ⟨_, rfl⟩
      · rcases List.mem_cons.mp this with rfl | this
        · exact ⟨_, rfl⟩
        · cases this
    refine ⟨rfl, ?_⟩
    have hB2 := bu _ _ (sT _ _ hB) nB
    have hk2 := bu _ _ (sT _ _ hrk) nrk
    refine ⟨_, rfl, _, rfl, _, rfl, B, _, j, _, rfl, rfl, SqL.of hB2, hj, (by show 0 ≤ sizeLine; decide), fun h nh => ?_⟩
    have sh := same_new (o := .lst []) nh
    have hh : (upd H3 h (.lst [])) h = some (.lst []) := upd_same
    generalize upd H3 h (.lst []) = H4 at sh hh ⊢
    have hp4 := sh _ _ hp2
    have e64 : (4 : Int) * 2 ^ 6 = 256 := by decide
    refine ⟨_, rfl, ps, nn, c, bk, p, rk, h, late, n + 254 * (i : Int), l', [], rfl, hp4, hl2, by omega, sh _ _ hk2, nrk, rows_but (rows_same hw (same_trans sT (same_refl _))) (bu.trans (.of sh)) hp1, hh, (ne_of_none hp2 nh).symm, ?_, by decide, by decide, fun y hy => (nomatch hy), fun H5 l5 v t b5 hp5 hl5 ht gt hd => ?_⟩
    · exact Nat.le_trans (List.length_filter_le ..) bk.nlen
    · have hD5 := b5 _ _ (sh _ _ hD) nDp
      have far : But D H5 (upd H5 D (.lst (vs ++ [v]))) := But.set
      have b25 : But p H3 H5 := (But.of sh).trans b5
      refine ⟨vs, hD5, by rw [len, sizeLine_eq]; omega, l5, vs ++ [v], ?_, ?_, ?_, upd_same, by rw [List.length_append, len]; rfl, by omega, fun u hu => ?_⟩
      · intro q o e ne
        rw [upd_ne (ne_of_none e nD)]
        exact b25 _ _ (bu _ _ e ne) ne
      · rw [upd_ne nDp.symm]
        exact hp5
      · refine hl5.mono ?_
        omega
      · rcases List.mem_append.mp hu with hu | hu
        · obtain ⟨t', h1, h2, h3⟩ := al u hu
          exact ⟨t', (h1.but b25 hp2).but far hD5, h2, h3⟩
        · rw [List.mem_singleton.mp hu]
          exact ⟨t, ht.but far hD5, gt, hd⟩
  · rintro H2 ⟨l', vs, bu, hp2, hl2, hD, len, _, al⟩
    refine k H2 D l' vs ((But.of sT).trans bu) hp2 (hl2.mono ?_) (same_free sT nD) hD len al
    show n + 254 * ((2 : Nat) : Int) ≤ n + 600
    omega
theorem rights_run {sq p B r1 r2 rk Mm b1 b2 bb tr C M : Addr} {j n : Int} {l vs : List V} {ps : List Rs} {nn c : List Str} {H : Hp} {Q : VK} (hp : H p = some (.lst l)) (hl : PurseL n l) (hn : n ≤ 700000) (hB : H B = some (.lst [.ref r1, .ref r2])) (nB : B ≠ p) (hj : atI [V.ref r1, V.ref r2] j = some (.ref rk)) (hrk : H rk = some (.lst (refs ps))) (nrk : rk ≠ p) (hw : RowsAt H ps) (bk : Bk ps nn c)
    (hM : H Mm = some (.lst [.ref b1, .ref b2])) (nM : Mm ≠ p) (hjb : atI [V.ref b1, V.ref b2] j = some (.ref bb)) (hb : BookAt C M H bb (ps.map (·.2)) nn) (htr : H tr = some (.lst vs)) (ntr : tr ≠ p) (len : vs.length = 2) (al : ∀ v ∈ vs, ∃ t, TrAt H v t ∧ GoodT (ps.map (·.2)) nn [] t ∧ t.dep ≤ 6)
    (k : ∀ (H' : Hp) (D : Addr) (l' : List V) (bs : List Bool), KB C M p H H' → H' p = some (.lst l') → PurseL (n + 128) l' → H' D = some (.lst (bs.map V.bl)) → bs.all id = true → Q (.ref D) H') :
    tLc (iList K (tVar 7)) (gName 8) tYes (teRight K C M) [8] [some (.ref sq), some (.ref p), some (.ref B), none, some (.ref Mm), some (.int j), none, some (.ref tr), none] H Q := by
  refine ⟨_, rfl, tr, rfl, ⟨_, SqL.of htr⟩, fun D nD => ?_⟩
  have nDp : D ≠ p := (ne_of_none hp nD).symm
  refine lc_it (walk_list (a := tr) (xs := vs)) (g := gName 8) (tt := tYes) (te := teRight K C M) (vs := [8]) (Qd := fun H2 => Q (.ref D) H2) (fun i H2 => ∃ (l' : List V) (bs : List Bool), KB C M p H H2 ∧ H2 p = some (.lst l') ∧ PurseL (n + 64 * (i : Int)) l' ∧ H2 D = some (.lst (bs.map V.bl)) ∧ bs.length = i ∧ bs.all id = true) ?_ ?_ ?_ ?_
  · exact ⟨l, [], KB.of (Keep.of (same_new nD)) hp, (same_new nD) _ _ hp, by simpa using hl, upd_same, rfl, rfl⟩
  · rintro i H2 hi ⟨l', bs, kb, _⟩
    exact SqL.of (kb.lst htr ntr)
  · rintro i x H2 H3 hi ⟨l', bs, kb, hp2, hl2, hD, lb, ab⟩ y
    obtain ⟨rfl, hx⟩ := y
    obtain ⟨t, ht, gt, hd⟩ := al x (List.mem_of_getElem? hx)
    refine ⟨rfl, ?_⟩
    refine ⟨_, rfl, _, rfl, _, rfl, Mm, _, j, _, rfl, rfl, SqL.of (kb.lst hM nM), hjb, _, rfl, _, rfl, B, _, j, _, rfl, rfl, SqL.of (kb.lst hB nB), hj, ?_⟩
    refine ⟨_, rfl, p, bb, rk, x, n + 64 * (i : Int), l', ps, nn, c, t, rfl, hp2, hl2, by omega, bk, kb.book _ _ _ hb, kb.lst hrk nrk, nrk, kb.rows hw, kb.tree ht, gt, hd, fun H5 l5 k5 hp5 hl5 => ?_⟩
    have hD5 := k5.lst hD nDp
    refine ⟨_, hD5, by rw [List.length_map, sizeLine_eq]; omega, l5, bs ++ [true], (kb.trans k5).setL nD hD5, ?_, ?_, ?_, by rw [List.length_append, lb]; rfl, by rw [List.all_append, ab]; rfl⟩
    · rw [upd_ne nDp.symm]
      exact hp5
    · refine hl5.mono ?_
      omega
    · rw [upd_same, List.map_append]
      rfl
  · rintro H2 ⟨l', bs, kb, hp2, hl2, hD, lb, ab⟩
    refine k H2 D l' bs kb hp2 (hl2.mono ?_) hD ab
    rw [len]
    omega
end
end My
end

section
set_option Elab.async false
set_option linter.all false
set_option maxRecDepth 100000
set_option maxHeartbeats 4000000
namespace My
local macro_rules | `(tactic| walk_at "go") => `(tactic| (repeat (first
  | (refine ⟨_, rfl, ?_⟩)
  | (refine ⟨_, _, rfl, rfl, ?_⟩)
  | (refine ⟨_, _, rfl, ?_⟩)
  | (refine ⟨rfl, ?_⟩)
  | (refine Or.inl ⟨_, rfl, ?_⟩)
  | (refine ⟨_, _, _, _, rfl, rfl, L2.SqL.of (by first | assumption | exact L2.upd_same), rfl, ?_⟩)
  | (refine ⟨_, _, _, _, rfl, rfl, (by first | assumption | exact L2.upd_same), rfl, ?_⟩)
  | (refine And.intro (by first | omega | decide | (unfold L2.CPow; decide) | (unfold L2.CMul; omega) | (unfold L2.CDiv; omega)) ?_))))
open PySem PySem.Spec PyProof.Rows L2 TL MyF MyS MyW RZ MyR MyT MyQ MyV MyZ
/-- one of the two books of the rows at r1, r2 -/
def RM (C M r1 r2 : Addr) (qs1 qs2 : List Rs) : V → V → Hp → Prop := fun x y H => (x = .ref r1 ∧ ∃ b nn, y = .ref b ∧ BookAt C M H b (qs1.map (·.2)) nn ∧ NamesOf nn qs1) ∨ (x = .ref r2 ∧ ∃ b nn, y = .ref b ∧ BookAt C M H b (qs2.map (·.2)) nn ∧ NamesOf nn qs2)
theorem rm_stays {C M r1 r2 : Addr} {qs1 qs2 : List Rs} : Stays (RM C M r1 r2 qs1 qs2) := fun x y H H' D l h hD far => by
  rcases h with ⟨e, b, nn, e2, hb, nm⟩ | ⟨e, b, nn, e2, hb, nm⟩
  · exact .inl ⟨e, b, nn, e2, hb.but (q := D) (fun c o ec ne => far c o ec ne) hD, nm⟩
  · exact .inr ⟨e, b, nn, e2, hb.but (q := D) (fun c o ec ne => far c o ec ne) hD, nm⟩
theorem one_way {rows : List (List Str)} (h : Paired (fun w r => InOrd r w) [[]] rows) : rows = [[]] := by
  cases h with
  | cons h t =>
    cases t
    have := h.le
    rw [List.length_nil] at this
    rw [List.length_eq_zero_iff.mp (Nat.le_zero.mp this)]
section
variable {P : Program} {w : World} {K : PySem.W.Frag} {mg : Str → Option Value} {base : Heap}
/-- the book of the empty clause -/
theorem empty_run {C M : Addr} {σ : L2.St} {H : Hp} {Q : VK} (k : ∀ H' b, Same H H' → BookAt C M H' b [[]] [] → Q (.ref b) H') : tCall (spMade K C M) [] E0 (tCons (tLst (tCons (tTup tNil) tNil)) tNil) σ H Q := by
  refine ⟨(by show 0 ≤ sizeLine; decide), fun u nu => ?_⟩
  have su := same_new (o := .tup []) nu
  have hu : (upd H u (.tup [])) u = some (.tup []) := upd_same
  generalize upd H u (.tup []) = H1 at su hu ⊢
  refine ⟨(by show 1 ≤ sizeLine; decide), fun g ng => ?_⟩
  have sg := same_new (o := .lst [V.ref u]) ng
  have hg : (upd H1 g (.lst [V.ref u])) g = some (.lst [V.ref u]) := upd_same
  generalize upd H1 g (.lst [V.ref u]) = H2 at sg hg ⊢
  refine ⟨g, [(u, [])], rfl, SqL.of hg, fun x hx => ?_, fun r hr' => ?_, by show 1 < 64; decide, ⟨[], by decide, fun y hy => ?_⟩, fun H3 b nn s3 hb nm => ?_⟩
  · rw [List.mem_singleton.mp hx]
    exact sg _ _ hu
  · rw [List.mem_singleton.mp hr']
    exact ⟨by show clS [] = true; decide +kernel, by show 0 < 30; decide⟩
  · cases hy
  · have e1 : nn = [] := List.eq_nil_iff_forall_not_mem.mpr fun y hy => by
      have := (nm.mem y).mp hy
      cases this
    subst e1
    have e2 : MyR.uni ([((u, []) : Rs)].map (·.2)) = [[]] := uni_id (List.pairwise_singleton _ _) (by simp)
    rw [e2] at hb
    exact k H3 b (same_trans su (same_trans sg s3)) hb
theorem leaf_tree {H : Hp} {u : Addr} (hu : H u = some (.tup [])) : TrAt H (.ref u) (.leaf []) := ⟨u, rfl, hu, rfl, by decide⟩
theorem leaf_good : GoodT [[]] [] [] (.leaf []) := ⟨List.mem_singleton.mpr rfl, rfl⟩
/-! ### law -/
abbrev sLaw : Stmt := top 71
abbrev Nl : List Str := ["_law_script", "_law_purse_here", "_law_books", "_law_rows_here", "_law_made_here", "_law_at", "_law_late", "_law_trees", "_law_tree"]
def spLaw (K : PySem.W.Frag) : Sp := fun vs H Q _ => ∃ (a : Addr) (ns : List Int), vs = [.ref a] ∧ SqL K H a (ns.map V.int) ∧ ns.length ≤ 63 ∧ ∀ H', Q (.bl true) H'
theorem sc_law : FnScope Nl ["_law_script"] (defScope sLaw) := ⟨rfl, rfl, rfl, by decide +kernel, rfl, by decide +kernel, by decide +kernel⟩
theorem ok_law {f C M : Addr} {fd : FuncData} (G : Fun K "law" "law" sLaw f fd) (B : Pts mg)
    (FP : FN P w K mg base "_law_purse" 1 ["_law_script", "_law_at"] (spPurse K)) (FH : FN P w K mg base "_law_hard" 7 ["_law_purse_here", "_law_many"] (spHard K)) (FD : FN P w K mg base "_law_draw" 2 ["_law_purse_here", "_law_many"] spDraw)
    (FM : FN P w K mg base "_law_made" 7 ["_law_rows_here"] (spMade K C M)) (FO : FN P w K mg base "_law_own_tree" 10 ["_law_purse_here", "_law_rows_here", "_law_here", "_law_is_late"] (spOwnA K))
    (FR : FN P w K mg base "_law_tree_right" 19 ["_law_purse_here", "_law_made_here", "_law_rows_here", "_law_tree"] (spRight K C M)) (FS : FN P w K mg base "_law_book_stays" 8 ["_law_made_here", "_law_rows_here"] (spStays K C M))
    (FE : FN P w K mg base "_law_exact" 4 ["_law_mine", "_law_theirs"] (spExact K 3)) (FY : FN P w K mg base "ways_to_leaves" 17 ["book", "tree"] (spWays K C M)) (FG : FN P w K mg base "heights" 18 ["book", "tree"] (spHeights C M)) (FL : FN P w K mg base "leaf_at" 17 ["book", "tree", "part"] (spLeafAt K C M)) :
    FnOk P w K mg base CX0 20 f fd ["_law_script"] (spLaw K) := by
  have sc := sc_law
  obtain ⟨fP, dP, mP, kP, OP, bP⟩ := FP
  obtain ⟨fH, dH, mH, kH, OH, bH⟩ := FH
  obtain ⟨fD, dD, mD, kD, OD, bD⟩ := FD
  obtain ⟨fM, dM, mM, kM, OM, bM⟩ := FM
  obtain ⟨fO, dO, mO, kO, OO, bO⟩ := FO
  obtain ⟨fR, dR, mR, kR, OR, bR⟩ := FR
  obtain ⟨fS, dS, mS, kS, OS, bS⟩ := FS
  obtain ⟨fE, dE, mE, kE, OE, bE⟩ := FE
  obtain ⟨fY, dY, mY, kY, OY, bY⟩ := FY
  obtain ⟨fG, dG, mG, kG, OG, bG⟩ := FG
  obtain ⟨fL, dL, mL, kL, OL, bL⟩ := FL
  refine G.ok sc (fun vs H Q E h => ?_) (fun cdv A outer s H vs Q E hr h => ?_)
  · obtain ⟨_, _, rfl, _⟩ := h
    rfl
  · obtain ⟨a, zz, rfl, hS, h63, k⟩ := h
    have hr1 : Room 1 _ := hr.mono (by decide)
    have hr2 : Room 2 _ := hr.mono (by decide)
    have hr4 : Room 4 _ := hr.mono (by decide)
    have hr7 : Room 7 _ := hr.mono (by decide)
    have hr8 : Room 8 _ := hr.mono (by decide)
    have hr10 : Room 10 _ := hr.mono (by decide)
    have hr17 : Room 17 _ := hr.mono (by decide)
    have hr19 : Room 19 _ := hr.mono (by decide)
    have hr18 : Room 18 _ := hr.mono (by decide)
    apply Exists.intro
    apply And.intro
    · apply pss_cons
      · exact ps_set (i := 1) sc.nd rfl (Or.inr rfl) (pe_call OP hr1 rfl mP kP bP .nil pass0 (pa_cons (pv 0) (pa_cons pe_int pa_nil)))
      · apply pss_cons
        · exact ps_set (i := 2) sc.nd rfl (Or.inr rfl) (pe_lst (pa_cons (pe_call OH hr7 rfl mH kH bH .nil pass0 (pa_cons (pv 1) (pa_cons (pe_op op_add pe_int (pe_call OD hr2 rfl mD kD bD .nil pass0 (pa_cons (pv 1) (pa_cons pe_int pa_nil)))) pa_nil))) (pa_cons (pe_call OH hr7 rfl mH kH bH .nil pass0 (pa_cons (pv 1) (pa_cons pe_int pa_nil))) pa_nil)))
        · apply pss_cons
          · exact ps_set (i := 4) sc.nd rfl (Or.inr rfl) (pe_lc (own := [("_law_rows_here", 3)]) (g := gName 3) (tt := tYes) (te := tCall (spMade K C M) [] E0 (tCons (tVar 3) tNil)) rfl sc.nd (pi_sq (pv 2)) (blkOk_by (N := Nl) (sc := defScope sLaw) (by decide +kernel)) (fun _ _ _ _ _ => pg_name (i := 3) sc.nd rfl (Or.inl rfl)) (fun _ _ _ _ _ => pts_nil) (fun _ _ _ _ _ => (pe_call OM hr7 rfl mM kM bM .nil pass0 (pa_cons (pv 3) pa_nil))))
          · apply pss_cons
            · exact ps_for PassesOwn.never rfl (pi_tup (pe_tup (pa_cons pe_int (pa_cons pe_int (pa_cons pe_int pa_nil))))) (pg_name (i := 5) sc.nd rfl (Or.inr rfl)) (pss_cons (ps_setLc (i := 7) (own := [("_law_late", 6)]) (g := gName 6) (tt := tYes) (te := teOwn K) rfl sc.nd rfl (by rfl) (by rfl) (pi_tup (pe_tup (pa_cons pe_bl (pa_cons pe_bl pa_nil)))) (blkOk_by (N := Nl) (sc := defScope sLaw) (by decide +kernel)) (fun _ _ _ _ _ => pg_name (i := 6) sc.nd rfl (Or.inl rfl)) (fun _ _ _ _ _ => pts_nil) (fun _ _ _ _ _ => (pe_call OO hr10 rfl mO kO bO .nil pass0 (pa_cons (pv 1) (pa_cons (pe_ix ix_list (pv 2) (pv 5) (fun _ _ => rfl)) (pa_cons (pe_lst pa_nil) (pa_cons (pv 6) pa_nil)))))))
        (pss_one (ps_if (PW.pt (pw_or (pt_not (pt_val (pe_callB (cr_all rfl) (by rfl) B.all (by decide +kernel) (pa_cons (pe_lc (own := [("_law_tree", 8)]) (g := gName 8) (tt := tYes) (te := teRight K C M) rfl sc.nd (pi_list (pv 7)) (blkOk_by (N := Nl) (sc := defScope sLaw) (by decide +kernel)) (fun _ _ _ _ _ => pg_name (i := 8) sc.nd rfl (Or.inl rfl)) (fun _ _ _ _ _ => pts_nil) (fun _ _ _ _ _ => (pe_call OR hr19 rfl mR kR bR .nil pass0 (pa_cons (pv 1) (pa_cons (pe_ix ix_list (pv 4) (pv 5) (fun _ _ => rfl)) (pa_cons (pe_ix ix_list (pv 2) (pv 5) (fun _ _ => rfl)) (pa_cons (pv 8) pa_nil))))))) pa_nil)))) (pw_or1 (pt_not (pt_val (pe_call OS hr8 rfl mS kS bS .nil pass0 (pa_cons (pe_ix ix_list (pv 4) (pv 5) (fun _ _ => rfl)) (pa_cons (pe_ix ix_list (pv 2) (pv 5) (fun _ _ => rfl)) pa_nil)))))))) (pss_one (ps_ret pe_bl)) pss_nil)))
            · exact pss_one (ps_ret (pe_call OE hr4 rfl mE kE bE .nil pass0 (pa_cons (pe_lst (pa_cons (pe_call OY hr17 rfl mY kY bY .nil pass0 (pa_cons (pe_call OM hr7 rfl mM kM bM .nil pass0 (pa_cons (pe_lst (pa_cons (pe_tup pa_nil) pa_nil)) pa_nil)) (pa_cons (pe_tup pa_nil) pa_nil))) (pa_cons (pe_call OG hr18 rfl mG kG bG .nil pass0 (pa_cons (pe_call OM hr7 rfl mM kM bM .nil pass0 (pa_cons (pe_lst (pa_cons (pe_tup pa_nil) pa_nil)) pa_nil)) (pa_cons (pe_tup pa_nil) pa_nil))) (pa_cons (pe_call OL hr17 rfl mL kL bL .nil pass0 (pa_cons (pe_call OM hr7 rfl mM kM bM .nil pass0 (pa_cons (pe_lst (pa_cons (pe_tup pa_nil) pa_nil)) pa_nil)) (pa_cons (pe_tup pa_nil) (pa_cons (pe_tup pa_nil) pa_nil)))) pa_nil)))) (pa_cons (pe_lst (pa_cons (pe_lst (pa_cons (pe_tup pa_nil) pa_nil)) (pa_cons (pe_lst (pa_cons pe_int pa_nil)) (pa_cons (pe_tup pa_nil) pa_nil)))) pa_nil))))
    have est : L2.start Nl [V.ref a] = [some (.ref a), none, none, none, none, none, none, none, none] := rfl
    rw [est]
    refine ⟨_, rfl, a, zz, 0, rfl, hS, by decide, by decide, fun p q0 o0 l0 nq0 np0 hl0 => ?_⟩
    have hp1 : (upd (upd H q0 o0) p (.lst l0)) p = some (.lst l0) := upd_same
    generalize upd (upd H q0 o0) p (.lst l0) = H1 at hp1 ⊢
    dsimp only [gName, List.set]
    refine ⟨_, rfl, _, rfl, p, 4, 0, l0, rfl, hp1, hl0, by decide, by decide, by decide, fun l1 d1 hl1 d0 d4 => ?_⟩
    have hp1' : (upd H1 p (.lst l1)) p = some (.lst l1) := upd_same
    generalize upd H1 p (.lst l1) = H1' at hp1' ⊢
    refine ⟨_, _, rfl, rfl, ?_⟩
    refine ⟨p, _, 2 + d1, l1, rfl, hp1', hl1, by decide, by omega, by omega, fun H2 r1 l2 qs1 c1 b2 hp2 hl2 nr1 hr1' rw1 up1 gd1 nd1 lo1 len1 few1 un1 => ?_⟩
    refine ⟨_, rfl, p, _, 3, l2, rfl, hp2, hl2, by decide, by decide, by decide, fun H3 r2 l3 qs2 c2 b3 hp3 hl3 nr2 hr2' rw2 up2 gd2 nd2 lo2 len2 few2 un2 => ?_⟩
    have r1p : r1 ≠ p := (ne_of_none hp1' nr1).symm
    have r2p : r2 ≠ p := (ne_of_none hp2 nr2).symm
    have r12 : r1 ≠ r2 := ne_of_none hr1' nr2
    have hr1_3 := b3 _ _ hr1' r1p
    have rw1_3 := rows_but rw1 b3 hp2
    refine ⟨(by show 2 ≤ sizeLine; decide), fun Bk' nB => ?_⟩
    have sB := same_new (o := .lst [V.ref r1, V.ref r2]) nB
    have hB4 : (upd H3 Bk' (.lst [V.ref r1, V.ref r2])) Bk' = some (.lst [V.ref r1, V.ref r2]) := upd_same
    generalize upd H3 Bk' (.lst [V.ref r1, V.ref r2]) = H4 at sB hB4 ⊢
    have hp4 := sB _ _ hp3
    have hr1_4 := sB _ _ hr1_3
    have hr2_4 := sB _ _ hr2'
    have rw1_4 := rows_same rw1_3 sB
    have rw2_4 := rows_same rw2 sB
    have Bp : Bk' ≠ p := (ne_of_none hp3 nB).symm
    have n1 : c1.length ≤ 6 := by omega
    have n2 : c2.length ≤ 6 := by omega
    have mkBk : ∀ {qs : List Rs} {c nn : List Str}, NamesOf nn qs → Unfit (qs.map (·.2)) → GoodRs c (qs.map (·.2)) → c.all lowZ = true → c.Nodup → c.length ≤ 6 → (qs.length : Int) ≤ 60 → UpNd (qs.map (·.2)) → Bk qs nn c := fun nm un gd lo nd n6 few up => ⟨nm, un, gd, lo, nd, n6, by omega, up⟩
    dsimp only [tSeq, tAsg, gName, List.set]
    refine rel_seq (fun _ => true) (RM C M r1 r2 qs1 qs2) rm_stays rfl (.inl (SqL.of hB4)) (by show 2 < sizeLine; decide) (fun x H5 Ψ Θ hx s5 yes no => ?_) (fun H5 Mm ys s5 nM hM pr => ?_)
    · refine ⟨rfl, ?_⟩
      have one : ∀ (rk : Addr) (qs : List Rs) (c : List Str), x = .ref rk → H4 rk = some (.lst (refs qs)) → RowsAt H4 qs → GoodRs c (qs.map (·.2)) → c.all lowZ = true → c.length ≤ 6 → (qs.length : Int) ≤ 60 → UpNd (qs.map (·.2)) →
          (∀ H6 b nn, Same H5 H6 → BookAt C M H6 b (qs.map (·.2)) nn → NamesOf nn qs → Ψ (.ref b) H6) → tCall (spMade K C M) [] E0 (tCons (tVar 3) tNil) ((wipe [some (V.ref a), some (V.ref p), some (V.ref Bk'), none, none, none, none, none, none] [3]).set 3 (some x)) H5 Ψ := by
        intro rk qs c ex hk rw gd lo n6 few up go
        subst ex
        have cov : ∀ y ∈ lits qs, bareS y ∈ c := fun y hy => by
          obtain ⟨r, hr', hy2⟩ := List.mem_flatMap.mp hy
          obtain ⟨s, hs, g⟩ := (gd r.2 (List.mem_map.mpr ⟨r, hr', rfl⟩)).1.lit y hy2
          rw [g.bare (List.all_eq_true.mp lo s hs)]
          exact hs
        refine ⟨_, rfl, rk, qs, rfl, SqL.of (s5 _ _ hk), rows_same rw s5, fun r hr' => ?_, by omega, ⟨c, by omega, cov⟩, fun H6 b nn s6 hb nm => ?_⟩
        · have g := gd r.2 (List.mem_map.mpr ⟨r, hr', rfl⟩)
          exact ⟨g.1.cl lo, by omega⟩
        · rw [uni_id up.up up.nd] at hb
          exact go H6 b nn s6 hb nm
      show (if true = true then tCall (spMade K C M) [] E0 (tCons (tVar 3) tNil) ((wipe [some (V.ref a), some (V.ref p), some (V.ref Bk'), none, none, none, none, none, none] [3]).set 3 (some x)) H5 Ψ else Θ H5)
      refine iteT ?_
      rcases List.mem_cons.mp hx with ex | hx
      · exact one r1 qs1 c1 ex hr1_4 rw1_4 gd1 lo1 n1 few1 up1 fun H6 b nn s6 hb nm => yes rfl _ H6 s6 (.inl ⟨ex, b, nn, rfl, hb, nm⟩)
      · have ex := List.mem_singleton.mp hx
        exact one r2 qs2 c2 ex hr2_4 rw2_4 gd2 lo2 n2 few2 up2 fun H6 b nn s6 hb nm => yes rfl _ H6 s6 (.inr ⟨ex, b, nn, rfl, hb, nm⟩)
    rw [show ([V.ref r1, V.ref r2] : List V).filter (fun _ => true) = [V.ref r1, V.ref r2] from rfl] at pr
    obtain ⟨bk1, bk2, nn1, nn2, rfl, hbk1, hbk2, nm1, nm2⟩ : ∃ bk1 bk2 nn1 nn2, ys = [V.ref bk1, V.ref bk2] ∧ BookAt C M H5 bk1 (qs1.map (·.2)) nn1 ∧ BookAt C M H5 bk2 (qs2.map (·.2)) nn2 ∧ NamesOf nn1 qs1 ∧ NamesOf nn2 qs2 := by
      cases pr with
      | cons h1 t =>
        cases t with
        | cons h2 t2 =>
          cases t2
          rcases h1 with ⟨_, u1, m1, e1, g1, g2⟩ | ⟨z, _⟩
          · rcases h2 with ⟨z, _⟩ | ⟨_, u2, m2, e2, g3, g4⟩
            · injection z with z
              exact absurd z.symm r12
            · exact ⟨u1, u2, m1, m2, by rw [e1, e2], g1, g3, g2, g4⟩
          · injection z with z
            exact absurd z r12
    have B1 := mkBk nm1 un1 gd1 lo1 nd1 n1 few1 up1
    have B2 := mkBk nm2 un2 gd2 lo2 nd2 n2 few2 up2
    have hp5 := s5 _ _ hp4
    have Mp : Mm ≠ p := (ne_of_none hp4 nM).symm
    refine ⟨(by show 3 ≤ sizeLine; decide), fun T nT => ?_⟩
    have sT := same_new (o := .tup [V.int 0, V.int 1, V.int 0]) nT
    have hT : (upd H5 T (.tup [V.int 0, V.int 1, V.int 0])) T = some (.tup [V.int 0, V.int 1, V.int 0]) := upd_same
    generalize upd H5 T (.tup [V.int 0, V.int 1, V.int 0]) = HL at sT hT ⊢
    have hpL := sT _ _ hp5
    have s4L := same_trans s5 sT
    have hBL := s4L _ _ hB4
    have hML := sT _ _ hM
    refine ⟨T, rfl, ⟨_, SqT.of hT⟩, ?_⟩
    refine for_tup (K := K) (a := T) (xs := [V.int 0, V.int 1, V.int 0]) (fun i σ H2 => KB C M p HL H2 ∧ (∃ l', H2 p = some (.lst l') ∧ PurseL (2001 + 728 * (i : Int)) l') ∧ i ≤ 3 ∧ ∃ x5 x7 : Option V, σ = [some (.ref a), some (.ref p), some (.ref Bk'), none, some (.ref Mm), x5, none, x7, none]) ?_ ?_ ?_ ?_
    · refine ⟨KB.of (Keep.of (same_refl _)) hpL, ⟨l3, hpL, hl3.mono ?_⟩, Nat.zero_le _, none, none, rfl⟩
      show (0 + 1 + 1000 + 1000 : Int) ≤ 2001 + 728 * ((0 : Nat) : Int)
      decide
    · rintro i σ H6 hi ⟨kb, _⟩
      exact SqT.of (kb.tup hT)
    · rintro i x σ H6 hx ⟨kb, ⟨l', hp6, hl6⟩, i3, x5, x7, rfl⟩
      have hi : i < 3 := (List.getElem?_eq_some_iff.mp hx).1
      obtain ⟨j, rk, bb, qs, nn, c, rfl, hj, hjb, hrk, nrk, hrw, bk, hb⟩ : ∃ (j : Int) (rk bb : Addr) (qs : List Rs) (nn c : List Str), x = .int j ∧ atI [V.ref r1, V.ref r2] j = some (.ref rk) ∧ atI [V.ref bk1, V.ref bk2] j = some (.ref bb) ∧ HL rk = some (.lst (refs qs)) ∧ rk ≠ p ∧ RowsAt HL qs ∧ Bk qs nn c ∧ BookAt C M HL bb (qs.map (·.2)) nn := by
        have z0 : ∀ x : V, x = .int 0 → ∃ (j : Int) (rk bb : Addr) (qs : List Rs) (nn c : List Str), x = .int j ∧ atI [V.ref r1, V.ref r2] j = some (.ref rk) ∧ atI [V.ref bk1, V.ref bk2] j = some (.ref bb) ∧ HL rk = some (.lst (refs qs)) ∧ rk ≠ p ∧ RowsAt HL qs ∧ Bk qs nn c ∧ BookAt C M HL bb (qs.map (·.2)) nn :=
          fun x e => ⟨0, r1, bk1, qs1, nn1, c1, e, rfl, rfl, s4L _ _ hr1_4, r1p, rows_same rw1_4 s4L, B1, hbk1.same sT⟩
        rcases List.mem_cons.mp (List.mem_of_getElem? hx) with ex | hx
        · exact z0 x ex
        · rcases List.mem_cons.mp hx with ex | hx
          · exact ⟨1, r2, bk2, qs2, nn2, c2, ex, rfl, rfl, s4L _ _ hr2_4, r2p, rows_same rw2_4 s4L, B2, hbk2.same sT⟩
          · exact z0 x (List.mem_singleton.mp hx)
      dsimp only [tSeq, tAsg, gName, List.set]
      refine trees_run hp6 hl6 (by omega) (kb.lst hBL Bp) Bp hj (kb.lst hrk nrk) nrk (kb.rows hrw) bk (fun H7 tr l7 vs b7 hp7 hl7 ntr htr len al => ?_)
      have K7 := kb.but b7 hp7
      have trp : tr ≠ p := (ne_of_none hp6 ntr).symm
      dsimp only [tIfS, tOr, tNot, tB, tCB, tCons, tNil]
      refine rights_run hp7 hl7 (by omega) (K7.lst hBL Bp) Bp hj (K7.lst hrk nrk) nrk (K7.rows hrw) bk (K7.lst hML Mp) Mp hjb (K7.book _ _ _ hb) htr trp len al (fun H8 D8 l8 bs k8 hp8 hl8 hD8 ab => ?_)
      refine ⟨D8, bs, rfl, SqL.of hD8, ?_⟩
      rw [ab]
      refine ⟨_, rfl, iteF ?_⟩
      have K8 := K7.trans k8
      refine ⟨_, rfl, _, rfl, Mm, _, j, _, rfl, rfl, SqL.of (K8.lst hML Mp), hjb, _, rfl, _, rfl, Bk', _, j, _, rfl, rfl, SqL.of (K8.lst hBL Bp), hj, ?_⟩
      refine ⟨bb, rk, qs, nn, c, rfl, bk, K8.book _ _ _ hb, K8.lst hrk nrk, K8.rows hrw, fun H9 s9 => ?_⟩
      refine ⟨_, rfl, iteF ?_⟩
      refine ⟨K8.same s9, ⟨l8, s9 _ _ hp8, hl8.mono ?_⟩, hi, _, _, rfl⟩
      show 2001 + 728 * (i : Int) + 600 + 128 ≤ 2001 + 728 * ((i + 1 : Nat) : Int)
      omega
    · rintro σ H6 ⟨kb, _, _, x5, x7, rfl⟩
      refine empty_run fun H7 e1 s7 he1 => ?_
      refine ⟨(by show 0 ≤ sizeLine; decide), fun u1 nu1 => ?_⟩
      have t1 := same_new (o := .tup []) nu1
      have hu1 : (upd H7 u1 (.tup [])) u1 = some (.tup []) := upd_same
      generalize upd H7 u1 (.tup []) = H8 at t1 hu1 ⊢
      refine ⟨.leaf [], ⟨e1, .ref u1, _, _, rfl, he1.same t1, leaf_tree hu1, leaf_good, by decide⟩, fun H9 w9 rows9 k9 nw9 pr9 => ?_⟩
      have er9 := one_way pr9
      subst er9
      obtain ⟨nw9', tq, hw9, rw9, eq9⟩ := nw9
      refine empty_run fun H10 e2 s10 he2 => ?_
      refine ⟨(by show 0 ≤ sizeLine; decide), fun u2 nu2 => ?_⟩
      have t2 := same_new (o := .tup []) nu2
      have hu2 : (upd H10 u2 (.tup [])) u2 = some (.tup []) := upd_same
      generalize upd H10 u2 (.tup []) = H11 at t2 hu2 ⊢
      refine ⟨.leaf [], ⟨e2, .ref u2, _, _, rfl, he2.same t2, leaf_tree hu2, leaf_good, by decide⟩, fun H12 w12 rows12 k12 nw12 hw12 pr12 => ?_⟩
      have er12 := one_way pr12
      subst er12
      refine empty_run fun H13 e3 s13 he3 => ?_
      refine ⟨(by show 0 ≤ sizeLine; decide), fun u3 nu3 => ?_⟩
      have t3 := same_new (o := .tup []) nu3
      have hu3 : (upd H13 u3 (.tup [])) u3 = some (.tup []) := upd_same
      generalize upd H13 u3 (.tup []) = H14 at t3 hu3 ⊢
      refine ⟨(by show 0 ≤ sizeLine; decide), fun u4 nu4 => ?_⟩
      have t4 := same_new (o := .tup []) nu4
      have hu4 : (upd H14 u4 (.tup [])) u4 = some (.tup []) := upd_same
      generalize upd H14 u4 (.tup []) = H15 at t4 hu4 ⊢
      refine ⟨.leaf [], [], ⟨e3, u4, .ref u3, _, _, rfl, he3.same (same_trans t3 t4), leaf_tree (t4 _ _ hu3), leaf_good, by decide, ⟨SqT.of hu4, by decide +kernel, by decide⟩, (fun y hy => nomatch hy), rfl⟩, fun H16 z k16 hz => ?_⟩
      obtain ⟨az, rfl, haz, _⟩ := hz
      have k9_16 : Keep C M H9 H16 := (Keep.of (same_trans s10 t2)).trans (k12.trans ((Keep.of (same_trans s13 (same_trans t3 t4))).trans k16))
      have k12_16 : Keep C M H12 H16 := (Keep.of (same_trans s13 (same_trans t3 t4))).trans k16
      refine ⟨(by show 3 ≤ sizeLine; decide), fun g1 ng1 => ?_⟩
      have v1 := same_new (o := .lst [V.ref w9, V.ref w12, V.ref az]) ng1
      have hg1 : (upd H16 g1 (.lst [V.ref w9, V.ref w12, V.ref az])) g1 = some (.lst [V.ref w9, V.ref w12, V.ref az]) := upd_same
      generalize upd H16 g1 (.lst [V.ref w9, V.ref w12, V.ref az]) = H17 at v1 hg1 ⊢
      refine ⟨(by show 0 ≤ sizeLine; decide), fun u5 nu5 => ?_⟩
      have t5 := same_new (o := .tup []) nu5
      have hu5 : (upd H17 u5 (.tup [])) u5 = some (.tup []) := upd_same
      generalize upd H17 u5 (.tup []) = H18 at t5 hu5 ⊢
      refine ⟨(by show 1 ≤ sizeLine; decide), fun g2 ng2 => ?_⟩
      have v2 := same_new (o := .lst [V.ref u5]) ng2
      have hg2 : (upd H18 g2 (.lst [V.ref u5])) g2 = some (.lst [V.ref u5]) := upd_same
      generalize upd H18 g2 (.lst [V.ref u5]) = H19 at v2 hg2 ⊢
      refine ⟨(by show 1 ≤ sizeLine; decide), fun g3 ng3 => ?_⟩
      have v3 := same_new (o := .lst [V.int 0]) ng3
      have hg3 : (upd H19 g3 (.lst [V.int 0])) g3 = some (.lst [V.int 0]) := upd_same
      generalize upd H19 g3 (.lst [V.int 0]) = H20 at v3 hg3 ⊢
      refine ⟨(by show 0 ≤ sizeLine; decide), fun u6 nu6 => ?_⟩
      have t6 := same_new (o := .tup []) nu6
      have hu6 : (upd H20 u6 (.tup [])) u6 = some (.tup []) := upd_same
      generalize upd H20 u6 (.tup []) = H21 at t6 hu6 ⊢
      refine ⟨(by show 3 ≤ sizeLine; decide), fun g4 ng4 => ?_⟩
      have v4 := same_new (o := .lst [V.ref g2, V.ref g3, V.ref u6]) ng4
      have hg4 : (upd H21 g4 (.lst [V.ref g2, V.ref g3, V.ref u6])) g4 = some (.lst [V.ref g2, V.ref g3, V.ref u6]) := upd_same
      generalize upd H21 g4 (.lst [V.ref g2, V.ref g3, V.ref u6]) = H22 at v4 hg4 ⊢
      have w19 := same_trans v3 (same_trans t6 v4)
      have w18 := same_trans v2 w19
      have w17 := same_trans t5 w18
      have w16 := same_trans v1 w17
      have k9_22 : Keep C M H9 H22 := k9_16.trans (Keep.of w16)
      have k12_22 : Keep C M H12 H22 := k12_16.trans (Keep.of w16)
      have rw5 : RowsAt H22 [((u5, []) : Rs)] := fun x hx => by
        rw [List.mem_singleton.mp hx]
        exact w18 _ _ hu5
      refine ⟨_, _, rfl, ex_3' (d := 2) (w17 _ _ hg1) hg4 (ex_rowsL (ps := tq) (qs := [(u5, [])]) (SqL.of (k9_22.lst hw9)) (SqL.of (w19 _ _ hg2)) (k9_22.rows rw9) rw5 eq9 ?_ ?_)
        (ex_intL (d := 1) (xs := [0]) (SqL.of (k12_22.lst hw12)) (SqL.of ((same_trans t6 v4) _ _ hg3)) (by decide)) (ex_strT (xs := []) (SqT.of (w16 _ _ haz)) (SqT.of (v4 _ _ hu6)) (by decide)), fun H23 s23 => k H23⟩
      · have := congrArg List.length eq9
        rw [List.length_map] at this
        rw [this]
        decide
      · intro x hx
        have : x.2 ∈ ([[]] : List (List Str)) := eq9 ▸ List.mem_map.mpr ⟨x, hx, rfl⟩
        rw [List.mem_singleton.mp this]
        decide
end
end My
end

section
set_option Elab.async false
set_option linter.all false
set_option maxRecDepth 100000
set_option maxHeartbeats 0
namespace My
open PySem PySem.Spec PyProof.Rows L2 TL MyF MyS MyW RZ MyR MyT MyQ MyV MyZ
theorem walk {l : PySem.W.OpenLaw} {q : Program} {loose : List Str} {XP : (Str → Option Value) → Heap → Prop} {YP : World → Heap → Prop} {d : DefRec} {K : Params → PySem.W.Frag} (hn : l.most = some 63) (hdf : d.params.defaults = [])
    (hY : ∀ (w : World) (h : Heap), YP w h → (K w.params).In h)
    (F : ∀ (w : World) (mg : Str → Option Value) (fa : Addr) (h : Heap), (K w.params).In h → h.Ns mainGlobals mg → mg d.name = some (.ref fa) →
      ∃ fd : FuncData, (∀ (s : Shared) (u : Value), BindsTo s fd ⟨[u], []⟩ [("_law_script", u)]) ∧ ∀ base : Heap, (K w.params).In base → base.Ns mainGlobals mg → FnOk l.prog w (K w.params) mg base CX0 20 fa fd ["_law_script"] (spLaw (K w.params))) :
    PySem.W.WalkO q loose XP YP l.row.toRowW d [] (fun f vs => PySem.call f vs) :=
  walk_ofK (n := 63) (k := 20) (x := "_law_script") (CX := CX0) (sp := spLaw) hn (by decide) hdf ⟨rfl, by decide, by decide⟩ hY F (fun _ _ a ns hl _ hS => ⟨a, ns, rfl, hS, hl, fun _ => rfl⟩) (fun _ _ _ _ h => h)
theorem all_mk {l : PySem.W.OpenLaw} {w : World} {K : PySem.W.Frag} {h : Heap} {mg : Str → Option Value} {fa C M : Addr} {gIv gBa gOp gIl gOr gHa gIc gPl gMb gMc gMs gMr gMp gMi gAm gBi gBc gBv gBe gNb gBm gJo gOb gPo gOi gNt gIp gNp gWh gTk gLa gAo gWb gWl gHs gLp gLm gLd gOo gSh gEx gLw gWs gLc gLb gLl gRw gLn gLk gLo gPa gFi gDc gDr gUf gSg gRi gTu gHd gMd gSt gLf gOw gLv gLe gTr gLx : Addr} {ocIv kVIv docIv pmIv cdvIv ctIv ocBa kVBa docBa pmBa cdvBa ctBa ocOp kVOp docOp pmOp cdvOp ctOp ocIl kVIl docIl pmIl cdvIl ctIl ocOr kVOr docOr pmOr cdvOr ctOr ocHa kVHa docHa pmHa cdvHa ctHa ocIc kVIc docIc pmIc cdvIc ctIc ocPl kVPl docPl pmPl cdvPl ctPl ocMb kVMb docMb pmMb cdvMb ctMb ocMc kVMc docMc pmMc cdvMc ctMc ocMs kVMs docMs pmMs cdvMs ctMs ocMr kVMr docMr pmMr cdvMr ctMr ocMp kVMp docMp pmMp cdvMp ctMp ocMi kVMi docMi pmMi cdvMi ctMi ocAm kVAm docAm pmAm cdvAm ctAm ocBi kVBi docBi pmBi cdvBi ctBi ocBc kVBc docBc pmBc cdvBc ctBc ocBv kVBv docBv pmBv cdvBv ctBv ocBe kVBe docBe pmBe cdvBe ctBe ocNb kVNb docNb pmNb cdvNb ctNb ocBm kVBm docBm pmBm cdvBm ctBm ocJo kVJo docJo pmJo cdvJo ctJo ocOb kVOb docOb pmOb cdvOb ctOb ocPo kVPo docPo pmPo cdvPo ctPo ocOi kVOi docOi pmOi cdvOi ctOi ocNt kVNt docNt pmNt cdvNt ctNt ocIp kVIp docIp pmIp cdvIp ctIp ocNp kVNp docNp pmNp cdvNp ctNp ocWh kVWh docWh pmWh cdvWh ctWh ocTk kVTk docTk pmTk cdvTk ctTk ocLa kVLa docLa pmLa cdvLa ctLa ocAo kVAo docAo pmAo cdvAo ctAo ocWb kVWb docWb pmWb cdvWb ctWb ocWl kVWl docWl pmWl cdvWl ctWl ocHs kVHs docHs pmHs cdvHs ctHs ocLp kVLp docLp pmLp cdvLp ctLp ocLm kVLm docLm pmLm cdvLm ctLm ocLd kVLd docLd pmLd cdvLd ctLd ocOo kVOo docOo pmOo cdvOo ctOo ocSh kVSh docSh pmSh cdvSh ctSh ocEx kVEx docEx pmEx cdvEx ctEx ocLw kVLw docLw pmLw cdvLw ctLw ocWs kVWs docWs pmWs cdvWs ctWs ocLc kVLc docLc pmLc cdvLc ctLc ocLb kVLb docLb pmLb cdvLb ctLb ocLl kVLl docLl pmLl cdvLl ctLl ocRw kVRw docRw pmRw cdvRw ctRw ocLn kVLn docLn pmLn cdvLn ctLn ocLk kVLk docLk pmLk cdvLk ctLk ocLo kVLo docLo pmLo cdvLo ctLo ocPa kVPa docPa pmPa cdvPa ctPa ocFi kVFi docFi pmFi cdvFi ctFi ocDc kVDc docDc pmDc cdvDc ctDc ocDr kVDr docDr pmDr cdvDr ctDr ocUf kVUf docUf pmUf cdvUf ctUf ocSg kVSg docSg pmSg cdvSg ctSg ocRi kVRi docRi pmRi cdvRi ctRi ocTu kVTu docTu pmTu cdvTu ctTu ocHd kVHd docHd pmHd cdvHd ctHd ocMd kVMd docMd pmMd cdvMd ctMd ocSt kVSt docSt pmSt cdvSt ctSt ocLf kVLf docLf pmLf cdvLf ctLf ocOw kVOw docOw pmOw cdvOw ctOw ocLv kVLv docLv pmLv cdvLv ctLv ocLe kVLe docLe pmLe cdvLe ctLe ocTr kVTr docTr pmTr cdvTr ctTr ocLx kVLx docLx pmLx cdvLx ctLx : Value} {odIv anIv odBa anBa odOp anOp odIl anIl odOr anOr odHa anHa odIc anIc odPl anPl odMb anMb odMc anMc odMs anMs odMr anMr odMp anMp odMi anMi odAm anAm odBi anBi odBc anBc odBv anBv odBe anBe odNb anNb odBm anBm odJo anJo odOb anOb odPo anPo odOi anOi odNt anNt odIp anIp odNp anNp odWh anWh odTk anTk odLa anLa odAo anAo odWb anWb odWl anWl odHs anHs odLp anLp odLm anLm odLd anLd odOo anOo odSh anSh odEx anEx odLw anLw odWs anWs odLc anLc odLb anLb odLl anLl odRw anRw odLn anLn odLk anLk odLo anLo odPa anPa odFi anFi odDc anDc odDr anDr odUf anUf odSg anSg odRi anRi odTu anTu odHd anHd odMd anMd odSt anSt odLf anLf odOw anOw odLv anLv odLe anLe odTr anTr odLx anLx : Option Addr} {oslIv oslBa oslOp oslIl oslOr oslHa oslIc oslPl oslMb oslMc oslMs oslMr oslMp oslMi oslAm oslBi oslBc oslBv oslBe oslNb oslBm oslJo oslOb oslPo oslOi oslNt oslIp oslNp oslWh oslTk oslLa oslAo oslWb oslWl oslHs oslLp oslLm oslLd oslOo oslSh oslEx oslLw oslWs oslLc oslLb oslLl oslRw oslLn oslLk oslLo oslPa oslFi oslDc oslDr oslUf oslSg oslRi oslTu oslHd oslMd oslSt oslLf oslOw oslLv oslLe oslTr oslLx : Array (Option Value)} {tM : Tok}
    (X : K.In h) (G : h.Ns mainGlobals mg) (hfa : mg "law" = some (.ref fa))
    (z_sum : PySem.W.nsIn K mainGlobals "sum" = some none)
    (z_int : PySem.W.nsIn K mainGlobals "int" = some none)
    (z_max : PySem.W.nsIn K mainGlobals "max" = some none)
    (z_min : PySem.W.nsIn K mainGlobals "min" = some none)
    (z_len : PySem.W.nsIn K mainGlobals "len" = some none)
    (z_range : PySem.W.nsIn K mainGlobals "range" = some none)
    (z_isinstance : PySem.W.nsIn K mainGlobals "isinstance" = some none)
    (z_all : PySem.W.nsIn K mainGlobals "all" = some none)
    (z_any : PySem.W.nsIn K mainGlobals "any" = some none)
    (z_list : PySem.W.nsIn K mainGlobals "list" = some none)
    (z_dict : PySem.W.nsIn K mainGlobals "dict" = some none)
    (z_tuple : PySem.W.nsIn K mainGlobals "tuple" = some none)
    (z_str : PySem.W.nsIn K mainGlobals "str" = some none)
    (z_sorted : PySem.W.nsIn K mainGlobals "sorted" = some none)
    (z_set : PySem.W.nsIn K mainGlobals "set" = some none)
    (z_zip : PySem.W.nsIn K mainGlobals "zip" = some none)
    (z_bool : PySem.W.nsIn K mainGlobals "bool" = some none)
    (z_enumerate : PySem.W.nsIn K mainGlobals "enumerate" = some none)
    (aMO : PySem.W.nsIn K mainGlobals "MOST_LETTERS" = some (some (.int 8 tM)))
    (aCC : PySem.W.nsIn K mainGlobals "Book" = some (some (.ref C)))
    (kC : PySem.W.keepIn K (.ref C) = true)
    (mkC : PySem.W.makesIn K C = true)
    (pgC : PySem.W.plainGet K C Str.empty = true)
    (hdC : PySem.W.hasDictIn K C = true)
    (poC : PySem.W.plainOver K C = true)
    (saC : PySem.W.findIn K (.ref C) "__setattr__" = some (some (.builtin "object.__setattr__")))
    (aCM : PySem.W.nsIn K mainGlobals "Marks" = some (some (.ref M)))
    (kM : PySem.W.keepIn K (.ref M) = true)
    (mkM : PySem.W.makesIn K M = true)
    (pgM : PySem.W.plainGet K M Str.empty = true)
    (hdM : PySem.W.hasDictIn K M = true)
    (poM : PySem.W.plainOver K M = true)
    (saM : PySem.W.findIn K (.ref M) "__setattr__" = some (some (.builtin "object.__setattr__")))
    (na_rows : PySem.W.findIn K (.ref C) "_rows" = some none)
    (na_names : PySem.W.findIn K (.ref C) "_names" = some none)
    (na_marks : PySem.W.findIn K (.ref C) "_marks" = some none)
    (na_table : PySem.W.findIn K (.ref C) "_table" = some none)
    (nm_bits : PySem.W.findIn K (.ref M) "bits" = some none)
    (nm_sides : PySem.W.findIn K (.ref M) "sides" = some none)
    (nm_breaking : PySem.W.findIn K (.ref M) "breaking" = some none)
    (nm_evens : PySem.W.findIn K (.ref M) "evens" = some none)
    (ci : PySem.W.findIn K (.ref C) "__class__" = some (some (.builtin "object.__class__")))
    (cn : PySem.W.specialIn K (.builtin "object.__class__") "__get__" = some (some (.builtin "getset_descriptor.__get__")))
    (ct_ : PySem.W.takesIn K (.builtin "object.__class__") = some true)
    (co_ : PySem.W.mroIn K C (.type "object") = some true)
    (aIv : PySem.W.nsIn K mainGlobals "is_variable" = some (some (.ref gIv)))
    (lIv : K.lookup gIv = some ⟨ocIv, odIv, .func (PySem.W.fnOf "is_variable" "is_variable" (defArgs sIsVar) (defBody sIsVar) (defScope sIsVar) .none kVIv docIv pmIv anIv cdvIv ctIv), oslIv⟩)
    (cIv : PySem.W.codeIn K cdvIv "is_variable" = true)
    (kIv : PySem.W.keepIn K (.ref gIv) = true)
    (aBa : PySem.W.nsIn K mainGlobals "bare" = some (some (.ref gBa)))
    (lBa : K.lookup gBa = some ⟨ocBa, odBa, .func (PySem.W.fnOf "bare" "bare" (defArgs sBare) (defBody sBare) (defScope sBare) .none kVBa docBa pmBa anBa cdvBa ctBa), oslBa⟩)
    (cBa : PySem.W.codeIn K cdvBa "bare" = true)
    (kBa : PySem.W.keepIn K (.ref gBa) = true)
    (aOp : PySem.W.nsIn K mainGlobals "opposite" = some (some (.ref gOp)))
    (lOp : K.lookup gOp = some ⟨ocOp, odOp, .func (PySem.W.fnOf "opposite" "opposite" (defArgs sOpp) (defBody sOpp) (defScope sOpp) .none kVOp docOp pmOp anOp cdvOp ctOp), oslOp⟩)
    (cOp : PySem.W.codeIn K cdvOp "opposite" = true)
    (kOp : PySem.W.keepIn K (.ref gOp) = true)
    (aIl : PySem.W.nsIn K mainGlobals "is_literal" = some (some (.ref gIl)))
    (lIl : K.lookup gIl = some ⟨ocIl, odIl, .func (PySem.W.fnOf "is_literal" "is_literal" (defArgs sIsLit) (defBody sIsLit) (defScope sIsLit) .none kVIl docIl pmIl anIl cdvIl ctIl), oslIl⟩)
    (cIl : PySem.W.codeIn K cdvIl "is_literal" = true)
    (kIl : PySem.W.keepIn K (.ref gIl) = true)
    (aOr : PySem.W.nsIn K mainGlobals "in_order" = some (some (.ref gOr)))
    (lOr : K.lookup gOr = some ⟨ocOr, odOr, .func (PySem.W.fnOf "in_order" "in_order" (defArgs sOrd) (defBody sOrd) (defScope sOrd) .none kVOr docOr pmOr anOr cdvOr ctOr), oslOr⟩)
    (cOr : PySem.W.codeIn K cdvOr "in_order" = true)
    (kOr : PySem.W.keepIn K (.ref gOr) = true)
    (aHa : PySem.W.nsIn K mainGlobals "has_contraries" = some (some (.ref gHa)))
    (lHa : K.lookup gHa = some ⟨ocHa, odHa, .func (PySem.W.fnOf "has_contraries" "has_contraries" (defArgs sHas) (defBody sHas) (defScope sHas) .none kVHa docHa pmHa anHa cdvHa ctHa), oslHa⟩)
    (cHa : PySem.W.codeIn K cdvHa "has_contraries" = true)
    (kHa : PySem.W.keepIn K (.ref gHa) = true)
    (aIc : PySem.W.nsIn K mainGlobals "is_clause" = some (some (.ref gIc)))
    (lIc : K.lookup gIc = some ⟨ocIc, odIc, .func (PySem.W.fnOf "is_clause" "is_clause" (defArgs sIsCl) (defBody sIsCl) (defScope sIsCl) .none kVIc docIc pmIc anIc cdvIc ctIc), oslIc⟩)
    (cIc : PySem.W.codeIn K cdvIc "is_clause" = true)
    (kIc : PySem.W.keepIn K (.ref gIc) = true)
    (aPl : PySem.W.nsIn K mainGlobals "is_place" = some (some (.ref gPl)))
    (lPl : K.lookup gPl = some ⟨ocPl, odPl, .func (PySem.W.fnOf "is_place" "is_place" (defArgs sPlace) (defBody sPlace) (defScope sPlace) .none kVPl docPl pmPl anPl cdvPl ctPl), oslPl⟩)
    (cPl : PySem.W.codeIn K cdvPl "is_place" = true)
    (kPl : PySem.W.keepIn K (.ref gPl) = true)
    (iMb : PySem.W.findIn K (.ref M) "bits_of" = some (some (.ref gMb)))
    (nMb : PySem.W.isFn K (.ref gMb) = true)
    (lMb : K.lookup gMb = some ⟨ocMb, odMb, .func (PySem.W.fnOf "bits_of" "Marks.bits_of" (defArgs sMBits) (defBody sMBits) (defScope sMBits) .none kVMb docMb pmMb anMb cdvMb ctMb), oslMb⟩)
    (cMb : PySem.W.codeIn K cdvMb "Marks.bits_of" = true)
    (kMb : PySem.W.keepIn K (.ref gMb) = true)
    (iMc : PySem.W.findIn K (.ref M) "contraries" = some (some (.ref gMc)))
    (nMc : PySem.W.isFn K (.ref gMc) = true)
    (lMc : K.lookup gMc = some ⟨ocMc, odMc, .func (PySem.W.fnOf "contraries" "Marks.contraries" (defArgs sMContr) (defBody sMContr) (defScope sMContr) .none kVMc docMc pmMc anMc cdvMc ctMc), oslMc⟩)
    (cMc : PySem.W.codeIn K cdvMc "Marks.contraries" = true)
    (kMc : PySem.W.keepIn K (.ref gMc) = true)
    (iMs : PySem.W.findIn K (.ref M) "sides_of" = some (some (.ref gMs)))
    (nMs : PySem.W.isFn K (.ref gMs) = true)
    (lMs : K.lookup gMs = some ⟨ocMs, odMs, .func (PySem.W.fnOf "sides_of" "Marks.sides_of" (defArgs sMSides) (defBody sMSides) (defScope sMSides) .none kVMs docMs pmMs anMs cdvMs ctMs), oslMs⟩)
    (cMs : PySem.W.codeIn K cdvMs "Marks.sides_of" = true)
    (kMs : PySem.W.keepIn K (.ref gMs) = true)
    (iMr : PySem.W.findIn K (.ref M) "row_in" = some (some (.ref gMr)))
    (nMr : PySem.W.isFn K (.ref gMr) = true)
    (lMr : K.lookup gMr = some ⟨ocMr, odMr, .func (PySem.W.fnOf "row_in" "Marks.row_in" (defArgs sMRow) (defBody sMRow) (defScope sMRow) .none kVMr docMr pmMr anMr cdvMr ctMr), oslMr⟩)
    (cMr : PySem.W.codeIn K cdvMr "Marks.row_in" = true)
    (kMr : PySem.W.keepIn K (.ref gMr) = true)
    (iMp : PySem.W.findIn K (.ref M) "part_in" = some (some (.ref gMp)))
    (nMp : PySem.W.isFn K (.ref gMp) = true)
    (lMp : K.lookup gMp = some ⟨ocMp, odMp, .func (PySem.W.fnOf "part_in" "Marks.part_in" (defArgs sMPart) (defBody sMPart) (defScope sMPart) .none kVMp docMp pmMp anMp cdvMp ctMp), oslMp⟩)
    (cMp : PySem.W.codeIn K cdvMp "Marks.part_in" = true)
    (kMp : PySem.W.keepIn K (.ref gMp) = true)
    (iMi : PySem.W.findIn K (.ref M) "__init__" = some (some (.ref gMi)))
    (nMi : PySem.W.isFn K (.ref gMi) = true)
    (lMi : K.lookup gMi = some ⟨ocMi, odMi, .func (PySem.W.fnOf "__init__" "Marks.__init__" (defArgs sMInit) (defBody sMInit) (defScope sMInit) .none kVMi docMi pmMi anMi cdvMi ctMi), oslMi⟩)
    (cMi : PySem.W.codeIn K cdvMi "Marks.__init__" = true)
    (kMi : PySem.W.keepIn K (.ref gMi) = true)
    (aAm : PySem.W.nsIn K mainGlobals "names_among" = some (some (.ref gAm)))
    (lAm : K.lookup gAm = some ⟨ocAm, odAm, .func (PySem.W.fnOf "names_among" "names_among" (defArgs sAmong) (defBody sAmong) (defScope sAmong) .none kVAm docAm pmAm anAm cdvAm ctAm), oslAm⟩)
    (cAm : PySem.W.codeIn K cdvAm "names_among" = true)
    (kAm : PySem.W.keepIn K (.ref gAm) = true)
    (iBi : PySem.W.findIn K (.ref C) "__init__" = some (some (.ref gBi)))
    (nBi : PySem.W.isFn K (.ref gBi) = true)
    (lBi : K.lookup gBi = some ⟨ocBi, odBi, .func (PySem.W.fnOf "__init__" "Book.__init__" (defArgs sBInit) (defBody sBInit) (defScope sBInit) .none kVBi docBi pmBi anBi cdvBi ctBi), oslBi⟩)
    (cBi : PySem.W.codeIn K cdvBi "Book.__init__" = true)
    (kBi : PySem.W.keepIn K (.ref gBi) = true)
    (iBc : PySem.W.findIn K (.ref C) "clauses" = some (some (.ref gBc)))
    (nBc : PySem.W.isFn K (.ref gBc) = true)
    (lBc : K.lookup gBc = some ⟨ocBc, odBc, .func (PySem.W.fnOf "clauses" "Book.clauses" (defArgs sBCl) (defBody sBCl) (defScope sBCl) .none kVBc docBc pmBc anBc cdvBc ctBc), oslBc⟩)
    (cBc : PySem.W.codeIn K cdvBc "Book.clauses" = true)
    (kBc : PySem.W.keepIn K (.ref gBc) = true)
    (iBv : PySem.W.findIn K (.ref C) "variables" = some (some (.ref gBv)))
    (nBv : PySem.W.isFn K (.ref gBv) = true)
    (lBv : K.lookup gBv = some ⟨ocBv, odBv, .func (PySem.W.fnOf "variables" "Book.variables" (defArgs sBVar) (defBody sBVar) (defScope sBVar) .none kVBv docBv pmBv anBv cdvBv ctBv), oslBv⟩)
    (cBv : PySem.W.codeIn K cdvBv "Book.variables" = true)
    (kBv : PySem.W.keepIn K (.ref gBv) = true)
    (iBe : PySem.W.findIn K (.ref C) "__eq__" = some (some (.ref gBe)))
    (nBe : PySem.W.isFn K (.ref gBe) = true)
    (lBe : K.lookup gBe = some ⟨ocBe, odBe, .func (PySem.W.fnOf "__eq__" "Book.__eq__" (defArgs sBEq) (defBody sBEq) (defScope sBEq) .none kVBe docBe pmBe anBe cdvBe ctBe), oslBe⟩)
    (cBe : PySem.W.codeIn K cdvBe "Book.__eq__" = true)
    (kBe : PySem.W.keepIn K (.ref gBe) = true)
    (aNb : PySem.W.nsIn K mainGlobals "need_book" = some (some (.ref gNb)))
    (lNb : K.lookup gNb = some ⟨ocNb, odNb, .func (PySem.W.fnOf "need_book" "need_book" (defArgs sNeedB) (defBody sNeedB) (defScope sNeedB) .none kVNb docNb pmNb anNb cdvNb ctNb), oslNb⟩)
    (cNb : PySem.W.codeIn K cdvNb "need_book" = true)
    (kNb : PySem.W.keepIn K (.ref gNb) = true)
    (iBm : PySem.W.findIn K (.ref C) "marks" = some (some (.ref gBm)))
    (nBm : PySem.W.isFn K (.ref gBm) = true)
    (lBm : K.lookup gBm = some ⟨ocBm, odBm, .func (PySem.W.fnOf "marks" "Book.marks" (defArgs sBMarks) (defBody sBMarks) (defScope sBMarks) .none kVBm docBm pmBm anBm cdvBm ctBm), oslBm⟩)
    (cBm : PySem.W.codeIn K cdvBm "Book.marks" = true)
    (kBm : PySem.W.keepIn K (.ref gBm) = true)
    (aJo : PySem.W.nsIn K mainGlobals "joined_order" = some (some (.ref gJo)))
    (lJo : K.lookup gJo = some ⟨ocJo, odJo, .func (PySem.W.fnOf "joined_order" "joined_order" (defArgs sJoined) (defBody sJoined) (defScope sJoined) .none kVJo docJo pmJo anJo cdvJo ctJo), oslJo⟩)
    (cJo : PySem.W.codeIn K cdvJo "joined_order" = true)
    (kJo : PySem.W.keepIn K (.ref gJo) = true)
    (aOb : PySem.W.nsIn K mainGlobals "order_behind_way" = some (some (.ref gOb)))
    (lOb : K.lookup gOb = some ⟨ocOb, odOb, .func (PySem.W.fnOf "order_behind_way" "order_behind_way" (defArgs sObw) (defBody sObw) (defScope sObw) .none kVOb docOb pmOb anOb cdvOb ctOb), oslOb⟩)
    (cOb : PySem.W.codeIn K cdvOb "order_behind_way" = true)
    (kOb : PySem.W.keepIn K (.ref gOb) = true)
    (aPo : PySem.W.nsIn K mainGlobals "place_order" = some (some (.ref gPo)))
    (lPo : K.lookup gPo = some ⟨ocPo, odPo, .func (PySem.W.fnOf "place_order" "place_order" (defArgs sPo) (defBody sPo) (defScope sPo) .none kVPo docPo pmPo anPo cdvPo ctPo), oslPo⟩)
    (cPo : PySem.W.codeIn K cdvPo "place_order" = true)
    (kPo : PySem.W.keepIn K (.ref gPo) = true)
    (aOi : PySem.W.nsIn K mainGlobals "order_if_tree" = some (some (.ref gOi)))
    (lOi : K.lookup gOi = some ⟨ocOi, odOi, .func (PySem.W.fnOf "order_if_tree" "order_if_tree" (defArgs sOit) (defBody sOit) (defScope sOit) .none kVOi docOi pmOi anOi cdvOi ctOi), oslOi⟩)
    (cOi : PySem.W.codeIn K cdvOi "order_if_tree" = true)
    (kOi : PySem.W.keepIn K (.ref gOi) = true)
    (aNt : PySem.W.nsIn K mainGlobals "need_tree" = some (some (.ref gNt)))
    (lNt : K.lookup gNt = some ⟨ocNt, odNt, .func (PySem.W.fnOf "need_tree" "need_tree" (defArgs sNeedT) (defBody sNeedT) (defScope sNeedT) .none kVNt docNt pmNt anNt cdvNt ctNt), oslNt⟩)
    (cNt : PySem.W.codeIn K cdvNt "need_tree" = true)
    (kNt : PySem.W.keepIn K (.ref gNt) = true)
    (aIp : PySem.W.nsIn K mainGlobals "is_part" = some (some (.ref gIp)))
    (lIp : K.lookup gIp = some ⟨ocIp, odIp, .func (PySem.W.fnOf "is_part" "is_part" (defArgs sIsPart) (defBody sIsPart) (defScope sIsPart) .none kVIp docIp pmIp anIp cdvIp ctIp), oslIp⟩)
    (cIp : PySem.W.codeIn K cdvIp "is_part" = true)
    (kIp : PySem.W.keepIn K (.ref gIp) = true)
    (aNp : PySem.W.nsIn K mainGlobals "need_part" = some (some (.ref gNp)))
    (lNp : K.lookup gNp = some ⟨ocNp, odNp, .func (PySem.W.fnOf "need_part" "need_part" (defArgs sNeedP) (defBody sNeedP) (defScope sNeedP) .none kVNp docNp pmNp anNp cdvNp ctNp), oslNp⟩)
    (cNp : PySem.W.codeIn K cdvNp "need_part" = true)
    (kNp : PySem.W.keepIn K (.ref gNp) = true)
    (aWh : PySem.W.nsIn K mainGlobals "need_whole" = some (some (.ref gWh)))
    (lWh : K.lookup gWh = some ⟨ocWh, odWh, .func (PySem.W.fnOf "need_whole" "need_whole" (defArgs sWhole) (defBody sWhole) (defScope sWhole) .none kVWh docWh pmWh anWh cdvWh ctWh), oslWh⟩)
    (cWh : PySem.W.codeIn K cdvWh "need_whole" = true)
    (kWh : PySem.W.keepIn K (.ref gWh) = true)
    (aTk : PySem.W.nsIn K mainGlobals "taken" = some (some (.ref gTk)))
    (lTk : K.lookup gTk = some ⟨ocTk, odTk, .func (PySem.W.fnOf "taken" "taken" (defArgs sTaken) (defBody sTaken) (defScope sTaken) .none kVTk docTk pmTk anTk cdvTk ctTk), oslTk⟩)
    (cTk : PySem.W.codeIn K cdvTk "taken" = true)
    (kTk : PySem.W.keepIn K (.ref gTk) = true)
    (aLa : PySem.W.nsIn K mainGlobals "leaf_at" = some (some (.ref gLa)))
    (lLa : K.lookup gLa = some ⟨ocLa, odLa, .func (PySem.W.fnOf "leaf_at" "leaf_at" (defArgs sLeafAt) (defBody sLeafAt) (defScope sLeafAt) .none kVLa docLa pmLa anLa cdvLa ctLa), oslLa⟩)
    (cLa : PySem.W.codeIn K cdvLa "leaf_at" = true)
    (kLa : PySem.W.keepIn K (.ref gLa) = true)
    (aAo : PySem.W.nsIn K mainGlobals "asked_on" = some (some (.ref gAo)))
    (lAo : K.lookup gAo = some ⟨ocAo, odAo, .func (PySem.W.fnOf "asked_on" "asked_on" (defArgs sAsked) (defBody sAsked) (defScope sAsked) .none kVAo docAo pmAo anAo cdvAo ctAo), oslAo⟩)
    (cAo : PySem.W.codeIn K cdvAo "asked_on" = true)
    (kAo : PySem.W.keepIn K (.ref gAo) = true)
    (aWb : PySem.W.nsIn K mainGlobals "ways_behind" = some (some (.ref gWb)))
    (lWb : K.lookup gWb = some ⟨ocWb, odWb, .func (PySem.W.fnOf "ways_behind" "ways_behind" (defArgs sWaysB) (defBody sWaysB) (defScope sWaysB) .none kVWb docWb pmWb anWb cdvWb ctWb), oslWb⟩)
    (cWb : PySem.W.codeIn K cdvWb "ways_behind" = true)
    (kWb : PySem.W.keepIn K (.ref gWb) = true)
    (aWl : PySem.W.nsIn K mainGlobals "ways_to_leaves" = some (some (.ref gWl)))
    (lWl : K.lookup gWl = some ⟨ocWl, odWl, .func (PySem.W.fnOf "ways_to_leaves" "ways_to_leaves" (defArgs sWays) (defBody sWays) (defScope sWays) .none kVWl docWl pmWl anWl cdvWl ctWl), oslWl⟩)
    (cWl : PySem.W.codeIn K cdvWl "ways_to_leaves" = true)
    (kWl : PySem.W.keepIn K (.ref gWl) = true)
    (aHs : PySem.W.nsIn K mainGlobals "heights" = some (some (.ref gHs)))
    (lHs : K.lookup gHs = some ⟨ocHs, odHs, .func (PySem.W.fnOf "heights" "heights" (defArgs sHeights) (defBody sHeights) (defScope sHeights) .none kVHs docHs pmHs anHs cdvHs ctHs), oslHs⟩)
    (cHs : PySem.W.codeIn K cdvHs "heights" = true)
    (kHs : PySem.W.keepIn K (.ref gHs) = true)
    (aLp : PySem.W.nsIn K mainGlobals "_law_purse" = some (some (.ref gLp)))
    (lLp : K.lookup gLp = some ⟨ocLp, odLp, .func (PySem.W.fnOf "_law_purse" "_law_purse" (defArgs sPurse) (defBody sPurse) (defScope sPurse) .none kVLp docLp pmLp anLp cdvLp ctLp), oslLp⟩)
    (cLp : PySem.W.codeIn K cdvLp "_law_purse" = true)
    (kLp : PySem.W.keepIn K (.ref gLp) = true)
    (aLm : PySem.W.nsIn K mainGlobals "_law_mixed" = some (some (.ref gLm)))
    (lLm : K.lookup gLm = some ⟨ocLm, odLm, .func (PySem.W.fnOf "_law_mixed" "_law_mixed" (defArgs sMixed) (defBody sMixed) (defScope sMixed) .none kVLm docLm pmLm anLm cdvLm ctLm), oslLm⟩)
    (cLm : PySem.W.codeIn K cdvLm "_law_mixed" = true)
    (kLm : PySem.W.keepIn K (.ref gLm) = true)
    (aLd : PySem.W.nsIn K mainGlobals "_law_draw" = some (some (.ref gLd)))
    (lLd : K.lookup gLd = some ⟨ocLd, odLd, .func (PySem.W.fnOf "_law_draw" "_law_draw" (defArgs sDraw) (defBody sDraw) (defScope sDraw) .none kVLd docLd pmLd anLd cdvLd ctLd), oslLd⟩)
    (cLd : PySem.W.codeIn K cdvLd "_law_draw" = true)
    (kLd : PySem.W.keepIn K (.ref gLd) = true)
    (aOo : PySem.W.nsIn K mainGlobals "_law_one_of" = some (some (.ref gOo)))
    (lOo : K.lookup gOo = some ⟨ocOo, odOo, .func (PySem.W.fnOf "_law_one_of" "_law_one_of" (defArgs sOne) (defBody sOne) (defScope sOne) .none kVOo docOo pmOo anOo cdvOo ctOo), oslOo⟩)
    (cOo : PySem.W.codeIn K cdvOo "_law_one_of" = true)
    (kOo : PySem.W.keepIn K (.ref gOo) = true)
    (aSh : PySem.W.nsIn K mainGlobals "_law_shuffled" = some (some (.ref gSh)))
    (lSh : K.lookup gSh = some ⟨ocSh, odSh, .func (PySem.W.fnOf "_law_shuffled" "_law_shuffled" (defArgs sShuf) (defBody sShuf) (defScope sShuf) .none kVSh docSh pmSh anSh cdvSh ctSh), oslSh⟩)
    (cSh : PySem.W.codeIn K cdvSh "_law_shuffled" = true)
    (kSh : PySem.W.keepIn K (.ref gSh) = true)
    (aEx : PySem.W.nsIn K mainGlobals "_law_exact" = some (some (.ref gEx)))
    (lEx : K.lookup gEx = some ⟨ocEx, odEx, .func (PySem.W.fnOf "_law_exact" "_law_exact" (defArgs sExact) (defBody sExact) (defScope sExact) .none kVEx docEx pmEx anEx cdvEx ctEx), oslEx⟩)
    (cEx : PySem.W.codeIn K cdvEx "_law_exact" = true)
    (kEx : PySem.W.keepIn K (.ref gEx) = true)
    (aLw : PySem.W.nsIn K mainGlobals "_law_word" = some (some (.ref gLw)))
    (lLw : K.lookup gLw = some ⟨ocLw, odLw, .func (PySem.W.fnOf "_law_word" "_law_word" (defArgs sWord) (defBody sWord) (defScope sWord) .none kVLw docLw pmLw anLw cdvLw ctLw), oslLw⟩)
    (cLw : PySem.W.codeIn K cdvLw "_law_word" = true)
    (kLw : PySem.W.keepIn K (.ref gLw) = true)
    (aWs : PySem.W.nsIn K mainGlobals "_law_words" = some (some (.ref gWs)))
    (lWs : K.lookup gWs = some ⟨ocWs, odWs, .func (PySem.W.fnOf "_law_words" "_law_words" (defArgs sWords) (defBody sWords) (defScope sWords) .none kVWs docWs pmWs anWs cdvWs ctWs), oslWs⟩)
    (cWs : PySem.W.codeIn K cdvWs "_law_words" = true)
    (kWs : PySem.W.keepIn K (.ref gWs) = true)
    (aLc : PySem.W.nsIn K mainGlobals "_law_contrary" = some (some (.ref gLc)))
    (lLc : K.lookup gLc = some ⟨ocLc, odLc, .func (PySem.W.fnOf "_law_contrary" "_law_contrary" (defArgs sLCon) (defBody sLCon) (defScope sLCon) .none kVLc docLc pmLc anLc cdvLc ctLc), oslLc⟩)
    (cLc : PySem.W.codeIn K cdvLc "_law_contrary" = true)
    (kLc : PySem.W.keepIn K (.ref gLc) = true)
    (aLb : PySem.W.nsIn K mainGlobals "_law_bare" = some (some (.ref gLb)))
    (lLb : K.lookup gLb = some ⟨ocLb, odLb, .func (PySem.W.fnOf "_law_bare" "_law_bare" (defArgs sLBare) (defBody sLBare) (defScope sLBare) .none kVLb docLb pmLb anLb cdvLb ctLb), oslLb⟩)
    (cLb : PySem.W.codeIn K cdvLb "_law_bare" = true)
    (kLb : PySem.W.keepIn K (.ref gLb) = true)
    (aLl : PySem.W.nsIn K mainGlobals "_law_clause" = some (some (.ref gLl)))
    (lLl : K.lookup gLl = some ⟨ocLl, odLl, .func (PySem.W.fnOf "_law_clause" "_law_clause" (defArgs sLCl) (defBody sLCl) (defScope sLCl) .none kVLl docLl pmLl anLl cdvLl ctLl), oslLl⟩)
    (cLl : PySem.W.codeIn K cdvLl "_law_clause" = true)
    (kLl : PySem.W.keepIn K (.ref gLl) = true)
    (aRw : PySem.W.nsIn K mainGlobals "_law_rows" = some (some (.ref gRw)))
    (lRw : K.lookup gRw = some ⟨ocRw, odRw, .func (PySem.W.fnOf "_law_rows" "_law_rows" (defArgs sRows) (defBody sRows) (defScope sRows) .none kVRw docRw pmRw anRw cdvRw ctRw), oslRw⟩)
    (cRw : PySem.W.codeIn K cdvRw "_law_rows" = true)
    (kRw : PySem.W.keepIn K (.ref gRw) = true)
    (aLn : PySem.W.nsIn K mainGlobals "_law_names" = some (some (.ref gLn)))
    (lLn : K.lookup gLn = some ⟨ocLn, odLn, .func (PySem.W.fnOf "_law_names" "_law_names" (defArgs sNames) (defBody sNames) (defScope sNames) .none kVLn docLn pmLn anLn cdvLn ctLn), oslLn⟩)
    (cLn : PySem.W.codeIn K cdvLn "_law_names" = true)
    (kLn : PySem.W.keepIn K (.ref gLn) = true)
    (aLk : PySem.W.nsIn K mainGlobals "_law_breaks" = some (some (.ref gLk)))
    (lLk : K.lookup gLk = some ⟨ocLk, odLk, .func (PySem.W.fnOf "_law_breaks" "_law_breaks" (defArgs sLBreaks) (defBody sLBreaks) (defScope sLBreaks) .none kVLk docLk pmLk anLk cdvLk ctLk), oslLk⟩)
    (cLk : PySem.W.codeIn K cdvLk "_law_breaks" = true)
    (kLk : PySem.W.keepIn K (.ref gLk) = true)
    (aLo : PySem.W.nsIn K mainGlobals "_law_broken" = some (some (.ref gLo)))
    (lLo : K.lookup gLo = some ⟨ocLo, odLo, .func (PySem.W.fnOf "_law_broken" "_law_broken" (defArgs sLBroken) (defBody sLBroken) (defScope sLBroken) .none kVLo docLo pmLo anLo cdvLo ctLo), oslLo⟩)
    (cLo : PySem.W.codeIn K cdvLo "_law_broken" = true)
    (kLo : PySem.W.keepIn K (.ref gLo) = true)
    (aPa : PySem.W.nsIn K mainGlobals "_law_parts" = some (some (.ref gPa)))
    (lPa : K.lookup gPa = some ⟨ocPa, odPa, .func (PySem.W.fnOf "_law_parts" "_law_parts" (defArgs sParts) (defBody sParts) (defScope sParts) .none kVPa docPa pmPa anPa cdvPa ctPa), oslPa⟩)
    (cPa : PySem.W.codeIn K cdvPa "_law_parts" = true)
    (kPa : PySem.W.keepIn K (.ref gPa) = true)
    (aFi : PySem.W.nsIn K mainGlobals "_law_fillings" = some (some (.ref gFi)))
    (lFi : K.lookup gFi = some ⟨ocFi, odFi, .func (PySem.W.fnOf "_law_fillings" "_law_fillings" (defArgs sFills) (defBody sFills) (defScope sFills) .none kVFi docFi pmFi anFi cdvFi ctFi), oslFi⟩)
    (cFi : PySem.W.codeIn K cdvFi "_law_fillings" = true)
    (kFi : PySem.W.keepIn K (.ref gFi) = true)
    (aDc : PySem.W.nsIn K mainGlobals "_law_drawn_clause" = some (some (.ref gDc)))
    (lDc : K.lookup gDc = some ⟨ocDc, odDc, .func (PySem.W.fnOf "_law_drawn_clause" "_law_drawn_clause" (defArgs sDrawn) (defBody sDrawn) (defScope sDrawn) .none kVDc docDc pmDc anDc cdvDc ctDc), oslDc⟩)
    (cDc : PySem.W.codeIn K cdvDc "_law_drawn_clause" = true)
    (kDc : PySem.W.keepIn K (.ref gDc) = true)
    (aDr : PySem.W.nsIn K mainGlobals "_law_drawn" = some (some (.ref gDr)))
    (lDr : K.lookup gDr = some ⟨ocDr, odDr, .func (PySem.W.fnOf "_law_drawn" "_law_drawn" (defArgs sDrawnR) (defBody sDrawnR) (defScope sDrawnR) .none kVDr docDr pmDr anDr cdvDr ctDr), oslDr⟩)
    (cDr : PySem.W.codeIn K cdvDr "_law_drawn" = true)
    (kDr : PySem.W.keepIn K (.ref gDr) = true)
    (aUf : PySem.W.nsIn K mainGlobals "_law_unfilled" = some (some (.ref gUf)))
    (lUf : K.lookup gUf = some ⟨ocUf, odUf, .func (PySem.W.fnOf "_law_unfilled" "_law_unfilled" (defArgs sUnf) (defBody sUnf) (defScope sUnf) .none kVUf docUf pmUf anUf cdvUf ctUf), oslUf⟩)
    (cUf : PySem.W.codeIn K cdvUf "_law_unfilled" = true)
    (kUf : PySem.W.keepIn K (.ref gUf) = true)
    (aSg : PySem.W.nsIn K mainGlobals "_law_signs" = some (some (.ref gSg)))
    (lSg : K.lookup gSg = some ⟨ocSg, odSg, .func (PySem.W.fnOf "_law_signs" "_law_signs" (defArgs sSigns) (defBody sSigns) (defScope sSigns) .none kVSg docSg pmSg anSg cdvSg ctSg), oslSg⟩)
    (cSg : PySem.W.codeIn K cdvSg "_law_signs" = true)
    (kSg : PySem.W.keepIn K (.ref gSg) = true)
    (aRi : PySem.W.nsIn K mainGlobals "_law_ring" = some (some (.ref gRi)))
    (lRi : K.lookup gRi = some ⟨ocRi, odRi, .func (PySem.W.fnOf "_law_ring" "_law_ring" (defArgs sRing) (defBody sRing) (defScope sRing) .none kVRi docRi pmRi anRi cdvRi ctRi), oslRi⟩)
    (cRi : PySem.W.codeIn K cdvRi "_law_ring" = true)
    (kRi : PySem.W.keepIn K (.ref gRi) = true)
    (aTu : PySem.W.nsIn K mainGlobals "_law_turned" = some (some (.ref gTu)))
    (lTu : K.lookup gTu = some ⟨ocTu, odTu, .func (PySem.W.fnOf "_law_turned" "_law_turned" (defArgs sTurned) (defBody sTurned) (defScope sTurned) .none kVTu docTu pmTu anTu cdvTu ctTu), oslTu⟩)
    (cTu : PySem.W.codeIn K cdvTu "_law_turned" = true)
    (kTu : PySem.W.keepIn K (.ref gTu) = true)
    (aHd : PySem.W.nsIn K mainGlobals "_law_hard" = some (some (.ref gHd)))
    (lHd : K.lookup gHd = some ⟨ocHd, odHd, .func (PySem.W.fnOf "_law_hard" "_law_hard" (defArgs sHard) (defBody sHard) (defScope sHard) .none kVHd docHd pmHd anHd cdvHd ctHd), oslHd⟩)
    (cHd : PySem.W.codeIn K cdvHd "_law_hard" = true)
    (kHd : PySem.W.keepIn K (.ref gHd) = true)
    (aMd : PySem.W.nsIn K mainGlobals "_law_made" = some (some (.ref gMd)))
    (lMd : K.lookup gMd = some ⟨ocMd, odMd, .func (PySem.W.fnOf "_law_made" "_law_made" (defArgs sMade) (defBody sMade) (defScope sMade) .none kVMd docMd pmMd anMd cdvMd ctMd), oslMd⟩)
    (cMd : PySem.W.codeIn K cdvMd "_law_made" = true)
    (kMd : PySem.W.keepIn K (.ref gMd) = true)
    (aSt : PySem.W.nsIn K mainGlobals "_law_book_stays" = some (some (.ref gSt)))
    (lSt : K.lookup gSt = some ⟨ocSt, odSt, .func (PySem.W.fnOf "_law_book_stays" "_law_book_stays" (defArgs sStays) (defBody sStays) (defScope sStays) .none kVSt docSt pmSt anSt cdvSt ctSt), oslSt⟩)
    (cSt : PySem.W.codeIn K cdvSt "_law_book_stays" = true)
    (kSt : PySem.W.keepIn K (.ref gSt) = true)
    (aLf : PySem.W.nsIn K mainGlobals "_law_is_leaf" = some (some (.ref gLf)))
    (lLf : K.lookup gLf = some ⟨ocLf, odLf, .func (PySem.W.fnOf "_law_is_leaf" "_law_is_leaf" (defArgs sLeaf) (defBody sLeaf) (defScope sLeaf) .none kVLf docLf pmLf anLf cdvLf ctLf), oslLf⟩)
    (cLf : PySem.W.codeIn K cdvLf "_law_is_leaf" = true)
    (kLf : PySem.W.keepIn K (.ref gLf) = true)
    (aOw : PySem.W.nsIn K mainGlobals "_law_own_tree" = some (some (.ref gOw)))
    (lOw : K.lookup gOw = some ⟨ocOw, odOw, .func (PySem.W.fnOf "_law_own_tree" "_law_own_tree" (defArgs sOwn) (defBody sOwn) (defScope sOwn) .none kVOw docOw pmOw anOw cdvOw ctOw), oslOw⟩)
    (cOw : PySem.W.codeIn K cdvOw "_law_own_tree" = true)
    (kOw : PySem.W.keepIn K (.ref gOw) = true)
    (aLv : PySem.W.nsIn K mainGlobals "_law_ways" = some (some (.ref gLv)))
    (lLv : K.lookup gLv = some ⟨ocLv, odLv, .func (PySem.W.fnOf "_law_ways" "_law_ways" (defArgs sLWays) (defBody sLWays) (defScope sLWays) .none kVLv docLv pmLv anLv cdvLv ctLv), oslLv⟩)
    (cLv : PySem.W.codeIn K cdvLv "_law_ways" = true)
    (kLv : PySem.W.keepIn K (.ref gLv) = true)
    (aLe : PySem.W.nsIn K mainGlobals "_law_led" = some (some (.ref gLe)))
    (lLe : K.lookup gLe = some ⟨ocLe, odLe, .func (PySem.W.fnOf "_law_led" "_law_led" (defArgs sLed) (defBody sLed) (defScope sLed) .none kVLe docLe pmLe anLe cdvLe ctLe), oslLe⟩)
    (cLe : PySem.W.codeIn K cdvLe "_law_led" = true)
    (kLe : PySem.W.keepIn K (.ref gLe) = true)
    (aTr : PySem.W.nsIn K mainGlobals "_law_tree_right" = some (some (.ref gTr)))
    (lTr : K.lookup gTr = some ⟨ocTr, odTr, .func (PySem.W.fnOf "_law_tree_right" "_law_tree_right" (defArgs sRight) (defBody sRight) (defScope sRight) .none kVTr docTr pmTr anTr cdvTr ctTr), oslTr⟩)
    (cTr : PySem.W.codeIn K cdvTr "_law_tree_right" = true)
    (kTr : PySem.W.keepIn K (.ref gTr) = true)
    (aLx : PySem.W.nsIn K mainGlobals "law" = some (some (.ref gLx)))
    (lLx : K.lookup gLx = some ⟨ocLx, odLx, .func (PySem.W.fnOf "law" "law" (defArgs sLaw) (defBody sLaw) (defScope sLaw) .none kVLx docLx pmLx anLx cdvLx ctLx), oslLx⟩)
    (cLx : PySem.W.codeIn K cdvLx "law" = true)
    (kLx : PySem.W.keepIn K (.ref gLx) = true) :
    ∃ fd : FuncData, (∀ (s : Shared) (u : Value), BindsTo s fd ⟨[u], []⟩ [("_law_script", u)]) ∧ ∀ base : Heap, K.In base → base.Ns mainGlobals mg → FnOk l.prog w K mg base CX0 20 fa fd ["_law_script"] (spLaw K) := by
  have e := hfa.symm.trans (PySem.W.mg_of X G aLx)
  cases e
  have no : ∀ {n : Str}, PySem.W.nsIn K mainGlobals n = some none → mg n = none := fun z => PySem.W.mg_none_of X G z
  have at_ : ∀ {n : Str} {v : Value}, PySem.W.nsIn K mainGlobals n = some (some v) → mg n = some v := fun z => PySem.W.mg_of X G z
  have D : Bts mg := ⟨no z_sum, no z_int, no z_max, no z_min, no z_len, no z_range⟩
  have B : Pts mg := ⟨no z_isinstance, no z_str, no z_len, no z_all, no z_any, no z_tuple, no z_list, no z_dict, no z_sorted, no z_set, no z_zip, ⟨_, at_ aMO⟩⟩
  have E : Ets mg := ⟨no z_isinstance, no z_int, no z_bool, no z_list, no z_tuple, no z_dict, no z_len, no z_all, no z_zip⟩
  have TB : TxtB K mg C := ⟨⟨pgC, hdC, poC, saC⟩, na_rows, na_names, na_marks, na_table, at_ aCC, ci, cn, ct_, co_⟩
  have TM : TxtM K mg M := ⟨⟨pgM, hdM, poM, saM⟩, nm_bits, nm_sides, nm_breaking, nm_evens, at_ aCM⟩
  have GIv := fun_mk (st := sIsVar) lIv cIv kIv
  have bIv := GIv.binds (ps := ["value"]) fun _ _ _ _ _ _ us hl => match us, hl with | [_], _ => rfl
  have GBa := fun_mk (st := sBare) lBa cBa kBa
  have bBa := GBa.binds (ps := ["literal"]) fun _ _ _ _ _ _ us hl => match us, hl with | [_], _ => rfl
  have GOp := fun_mk (st := sOpp) lOp cOp kOp
  have bOp := GOp.binds (ps := ["literal"]) fun _ _ _ _ _ _ us hl => match us, hl with | [_], _ => rfl
  have GIl := fun_mk (st := sIsLit) lIl cIl kIl
  have bIl := GIl.binds (ps := ["value"]) fun _ _ _ _ _ _ us hl => match us, hl with | [_], _ => rfl
  have GOr := fun_mk (st := sOrd) lOr cOr kOr
  have bOr := GOr.binds (ps := ["literals"]) fun _ _ _ _ _ _ us hl => match us, hl with | [_], _ => rfl
  have GHa := fun_mk (st := sHas) lHa cHa kHa
  have bHa := GHa.binds (ps := ["literals"]) fun _ _ _ _ _ _ us hl => match us, hl with | [_], _ => rfl
  have GIc := fun_mk (st := sIsCl) lIc cIc kIc
  have bIc := GIc.binds (ps := ["value"]) fun _ _ _ _ _ _ us hl => match us, hl with | [_], _ => rfl
  have GPl := fun_mk (st := sPlace) lPl cPl kPl
  have bPl := GPl.binds (ps := ["value"]) fun _ _ _ _ _ _ us hl => match us, hl with | [_], _ => rfl
  have GMb := fun_mk (st := sMBits) lMb cMb kMb
  have bMb := GMb.binds (ps := ["self", "literals"]) fun _ _ _ _ _ _ us hl => match us, hl with | [_, _], _ => rfl
  have GMc := fun_mk (st := sMContr) lMc cMc kMc
  have bMc := GMc.binds (ps := ["self", "bits"]) fun _ _ _ _ _ _ us hl => match us, hl with | [_, _], _ => rfl
  have GMs := fun_mk (st := sMSides) lMs cMs kMs
  have bMs := GMs.binds (ps := ["self", "value", "bits"]) fun _ _ _ _ _ _ us hl => match us, hl with | [_, _, _], _ => rfl
  have GMr := fun_mk (st := sMRow) lMr cMr kMr
  have bMr := GMr.binds (ps := ["self", "value"]) fun _ _ _ _ _ _ us hl => match us, hl with | [_, _], _ => rfl
  have GMp := fun_mk (st := sMPart) lMp cMp kMp
  have bMp := GMp.binds (ps := ["self", "value"]) fun _ _ _ _ _ _ us hl => match us, hl with | [_, _], _ => rfl
  have GMi := fun_mk (st := sMInit) lMi cMi kMi
  have bMi := GMi.binds (ps := ["self", "rows", "names"]) fun _ _ _ _ _ _ us hl => match us, hl with | [_, _, _], _ => rfl
  have GAm := fun_mk (st := sAmong) lAm cAm kAm
  have bAm := GAm.binds (ps := ["clauses"]) fun _ _ _ _ _ _ us hl => match us, hl with | [_], _ => rfl
  have GBi := fun_mk (st := sBInit) lBi cBi kBi
  have bBi := GBi.binds (ps := ["self", "clauses"]) fun _ _ _ _ _ _ us hl => match us, hl with | [_, _], _ => rfl
  have GBc := fun_mk (st := sBCl) lBc cBc kBc
  have bBc := GBc.binds (ps := ["self"]) fun _ _ _ _ _ _ us hl => match us, hl with | [_], _ => rfl
  have GBv := fun_mk (st := sBVar) lBv cBv kBv
  have bBv := GBv.binds (ps := ["self"]) fun _ _ _ _ _ _ us hl => match us, hl with | [_], _ => rfl
  have GBe := fun_mk (st := sBEq) lBe cBe kBe
  have bBe := GBe.binds (ps := ["self", "other"]) fun _ _ _ _ _ _ us hl => match us, hl with | [_, _], _ => rfl
  have GNb := fun_mk (st := sNeedB) lNb cNb kNb
  have bNb := GNb.binds (ps := ["book"]) fun _ _ _ _ _ _ us hl => match us, hl with | [_], _ => rfl
  have GBm := fun_mk (st := sBMarks) lBm cBm kBm
  have bBm := GBm.binds (ps := ["self"]) fun _ _ _ _ _ _ us hl => match us, hl with | [_], _ => rfl
  have GJo := fun_mk (st := sJoined) lJo cJo kJo
  have bJo := GJo.binds (ps := ["one", "other"]) fun _ _ _ _ _ _ us hl => match us, hl with | [_, _], _ => rfl
  have GOb := fun_mk (st := sObw) lOb cOb kOb
  have bOb := GOb.binds (ps := ["marks", "value", "way"]) fun _ _ _ _ _ _ us hl => match us, hl with | [_, _, _], _ => rfl
  have GPo := fun_mk (st := sPo) lPo cPo kPo
  have bPo := GPo.binds (ps := ["marks", "value", "way"]) fun _ _ _ _ _ _ us hl => match us, hl with | [_, _, _], _ => rfl
  have GOi := fun_mk (st := sOit) lOi cOi kOi
  have bOi := GOi.binds (ps := ["book", "value"]) fun _ _ _ _ _ _ us hl => match us, hl with | [_, _], _ => rfl
  have GNt := fun_mk (st := sNeedT) lNt cNt kNt
  have bNt := GNt.binds (ps := ["book", "tree"]) fun _ _ _ _ _ _ us hl => match us, hl with | [_, _], _ => rfl
  have GIp := fun_mk (st := sIsPart) lIp cIp kIp
  have bIp := GIp.binds (ps := ["book", "value"]) fun _ _ _ _ _ _ us hl => match us, hl with | [_, _], _ => rfl
  have GNp := fun_mk (st := sNeedP) lNp cNp kNp
  have bNp := GNp.binds (ps := ["book", "part"]) fun _ _ _ _ _ _ us hl => match us, hl with | [_, _], _ => rfl
  have GWh := fun_mk (st := sWhole) lWh cWh kWh
  have bWh := GWh.binds (ps := ["book", "part"]) fun _ _ _ _ _ _ us hl => match us, hl with | [_, _], _ => rfl
  have GTk := fun_mk (st := sTaken) lTk cTk kTk
  have bTk := GTk.binds (ps := ["tree", "part"]) fun _ _ _ _ _ _ us hl => match us, hl with | [_, _], _ => rfl
  have GLa := fun_mk (st := sLeafAt) lLa cLa kLa
  have bLa := GLa.binds (ps := ["book", "tree", "part"]) fun _ _ _ _ _ _ us hl => match us, hl with | [_, _, _], _ => rfl
  have GAo := fun_mk (st := sAsked) lAo cAo kAo
  have bAo := GAo.binds (ps := ["book", "tree", "part"]) fun _ _ _ _ _ _ us hl => match us, hl with | [_, _, _], _ => rfl
  have GWb := fun_mk (st := sWaysB) lWb cWb kWb
  have bWb := GWb.binds (ps := ["tree", "part"]) fun _ _ _ _ _ _ us hl => match us, hl with | [_, _], _ => rfl
  have GWl := fun_mk (st := sWays) lWl cWl kWl
  have bWl := GWl.binds (ps := ["book", "tree"]) fun _ _ _ _ _ _ us hl => match us, hl with | [_, _], _ => rfl
  have GHs := fun_mk (st := sHeights) lHs cHs kHs
  have bHs := GHs.binds (ps := ["book", "tree"]) fun _ _ _ _ _ _ us hl => match us, hl with | [_, _], _ => rfl
  have GLp := fun_mk (st := sPurse) lLp cLp kLp
  have bLp := GLp.binds (ps := ["_law_script", "_law_at"]) fun _ _ _ _ _ _ us hl => match us, hl with | [_, _], _ => rfl
  have GLm := fun_mk (st := sMixed) lLm cLm kLm
  have bLm := GLm.binds (ps := ["_law_seed", "_law_spin", "_law_at"]) fun _ _ _ _ _ _ us hl => match us, hl with | [_, _, _], _ => rfl
  have GLd := fun_mk (st := sDraw) lLd cLd kLd
  have bLd := GLd.binds (ps := ["_law_purse_here", "_law_many"]) fun _ _ _ _ _ _ us hl => match us, hl with | [_, _], _ => rfl
  have GOo := fun_mk (st := sOne) lOo cOo kOo
  have bOo := GOo.binds (ps := ["_law_purse_here", "_law_some"]) fun _ _ _ _ _ _ us hl => match us, hl with | [_, _], _ => rfl
  have GSh := fun_mk (st := sShuf) lSh cSh kSh
  have bSh := GSh.binds (ps := ["_law_purse_here", "_law_some"]) fun _ _ _ _ _ _ us hl => match us, hl with | [_, _], _ => rfl
  have GEx := fun_mk (st := sExact) lEx cEx kEx
  have bEx := GEx.binds (ps := ["_law_mine", "_law_theirs"]) fun _ _ _ _ _ _ us hl => match us, hl with | [_, _], _ => rfl
  have GLw := fun_mk (st := sWord) lLw cLw kLw
  have bLw := GLw.binds (ps := ["_law_purse_here"]) fun _ _ _ _ _ _ us hl => match us, hl with | [_], _ => rfl
  have GWs := fun_mk (st := sWords) lWs cWs kWs
  have bWs := GWs.binds (ps := ["_law_purse_here", "_law_many"]) fun _ _ _ _ _ _ us hl => match us, hl with | [_, _], _ => rfl
  have GLc := fun_mk (st := sLCon) lLc cLc kLc
  have bLc := GLc.binds (ps := ["_law_literal"]) fun _ _ _ _ _ _ us hl => match us, hl with | [_], _ => rfl
  have GLb := fun_mk (st := sLBare) lLb cLb kLb
  have bLb := GLb.binds (ps := ["_law_literal"]) fun _ _ _ _ _ _ us hl => match us, hl with | [_], _ => rfl
  have GLl := fun_mk (st := sLCl) lLl cLl kLl
  have bLl := GLl.binds (ps := ["_law_literals"]) fun _ _ _ _ _ _ us hl => match us, hl with | [_], _ => rfl
  have GRw := fun_mk (st := sRows) lRw cRw kRw
  have bRw := GRw.binds (ps := ["_law_clauses"]) fun _ _ _ _ _ _ us hl => match us, hl with | [_], _ => rfl
  have GLn := fun_mk (st := sNames) lLn cLn kLn
  have bLn := GLn.binds (ps := ["_law_rows_here"]) fun _ _ _ _ _ _ us hl => match us, hl with | [_], _ => rfl
  have GLk := fun_mk (st := sLBreaks) lLk cLk kLk
  have bLk := GLk.binds (ps := ["_law_part", "_law_clause_here"]) fun _ _ _ _ _ _ us hl => match us, hl with | [_, _], _ => rfl
  have GLo := fun_mk (st := sLBroken) lLo cLo kLo
  have bLo := GLo.binds (ps := ["_law_rows_here", "_law_part"]) fun _ _ _ _ _ _ us hl => match us, hl with | [_, _], _ => rfl
  have GPa := fun_mk (st := sParts) lPa cPa kPa
  have bPa := GPa.binds (ps := ["_law_names_here"]) fun _ _ _ _ _ _ us hl => match us, hl with | [_], _ => rfl
  have GFi := fun_mk (st := sFills) lFi cFi kFi
  have bFi := GFi.binds (ps := ["_law_rows_here", "_law_names_here"]) fun _ _ _ _ _ _ us hl => match us, hl with | [_, _], _ => rfl
  have GDc := fun_mk (st := sDrawn) lDc cDc kDc
  have bDc := GDc.binds (ps := ["_law_purse_here", "_law_names_here", "_law_most"]) fun _ _ _ _ _ _ us hl => match us, hl with | [_, _, _], _ => rfl
  have GDr := fun_mk (st := sDrawnR) lDr cDr kDr
  have bDr := GDr.binds (ps := ["_law_purse_here", "_law_names_here", "_law_many"]) fun _ _ _ _ _ _ us hl => match us, hl with | [_, _, _], _ => rfl
  have GUf := fun_mk (st := sUnf) lUf cUf kUf
  have bUf := GUf.binds (ps := ["_law_purse_here", "_law_names_here", "_law_many"]) fun _ _ _ _ _ _ us hl => match us, hl with | [_, _, _], _ => rfl
  have GSg := fun_mk (st := sSigns) lSg cSg kSg
  have bSg := GSg.binds (ps := ["_law_names_here"]) fun _ _ _ _ _ _ us hl => match us, hl with | [_], _ => rfl
  have GRi := fun_mk (st := sRing) lRi cRi kRi
  have bRi := GRi.binds (ps := ["_law_names_here"]) fun _ _ _ _ _ _ us hl => match us, hl with | [_], _ => rfl
  have GTu := fun_mk (st := sTurned) lTu cTu kTu
  have bTu := GTu.binds (ps := ["_law_rows_here", "_law_names_here"]) fun _ _ _ _ _ _ us hl => match us, hl with | [_, _], _ => rfl
  have GHd := fun_mk (st := sHard) lHd cHd kHd
  have bHd := GHd.binds (ps := ["_law_purse_here", "_law_many"]) fun _ _ _ _ _ _ us hl => match us, hl with | [_, _], _ => rfl
  have GMd := fun_mk (st := sMade) lMd cMd kMd
  have bMd := GMd.binds (ps := ["_law_rows_here"]) fun _ _ _ _ _ _ us hl => match us, hl with | [_], _ => rfl
  have GSt := fun_mk (st := sStays) lSt cSt kSt
  have bSt := GSt.binds (ps := ["_law_made_here", "_law_rows_here"]) fun _ _ _ _ _ _ us hl => match us, hl with | [_, _], _ => rfl
  have GLf := fun_mk (st := sLeaf) lLf cLf kLf
  have bLf := GLf.binds (ps := ["_law_tree"]) fun _ _ _ _ _ _ us hl => match us, hl with | [_], _ => rfl
  have GOw := fun_mk (st := sOwn) lOw cOw kOw
  have bOw := GOw.binds (ps := ["_law_purse_here", "_law_rows_here", "_law_here", "_law_is_late"]) fun _ _ _ _ _ _ us hl => match us, hl with | [_, _, _, _], _ => rfl
  have GLv := fun_mk (st := sLWays) lLv cLv kLv
  have bLv := GLv.binds (ps := ["_law_tree", "_law_here"]) fun _ _ _ _ _ _ us hl => match us, hl with | [_, _], _ => rfl
  have GLe := fun_mk (st := sLed) lLe cLe kLe
  have bLe := GLe.binds (ps := ["_law_tree", "_law_part"]) fun _ _ _ _ _ _ us hl => match us, hl with | [_, _], _ => rfl
  have GTr := fun_mk (st := sRight) lTr cTr kTr
  have bTr := GTr.binds (ps := ["_law_purse_here", "_law_made_here", "_law_rows_here", "_law_tree"]) fun _ _ _ _ _ _ us hl => match us, hl with | [_, _, _, _], _ => rfl
  have GLx := fun_mk (st := sLaw) lLx cLx kLx
  have bLx := GLx.binds (ps := ["_law_script"]) fun _ _ _ _ _ _ us hl => match us, hl with | [_], _ => rfl
  refine ⟨PySem.W.fnOf "law" "law" (defArgs sLaw) (defBody sLaw) (defScope sLaw) .none kVLx docLx pmLx anLx cdvLx ctLx, fun s v => .of_eq rfl, fun base _ _ => ?_⟩
  have oIv : FnOk l.prog w K mg base CX0 1 gIv _ _ (spIsVar K) := ok_isvar GIv B
  have oBa : FnOk l.prog w K mg base CX0 1 gBa _ _ spBare := ok_bare GBa
  have oOp : FnOk l.prog w K mg base CX0 2 gOp _ _ spOpp := ok_opp GOp (at_ aBa) GBa bBa
  have oIl : FnOk l.prog w K mg base CX0 2 gIl _ _ (spIsLit K) := ok_islit GIl B (at_ aIv) GIv bIv
  have oOr : FnOk l.prog w K mg base CX0 1 gOr _ _ (spOrd K) := ok_ord GOr B
  have oHa : FnOk l.prog w K mg base CX0 1 gHa _ _ (spHas K) := ok_has GHa B
  have oIc : FnOk l.prog w K mg base CX0 4 gIc _ _ (spIsCl K) := ok_iscl GIc B (at_ aIl) kIl oIl bIl (at_ aHa) kHa oHa bHa
  have oPl : FnOk l.prog w K mg base CX0 2 gPl _ _ spPlace := ok_place GPl B (at_ aIv) kIv oIv bIv
  have oMb : FnOk l.prog w K mg base CX0 1 gMb _ _ (spMBits K M) := ok_mbits GMb TM
  have oMc : FnOk l.prog w K mg base CX0 1 gMc _ _ (spMContr M) := ok_mcontr GMc TM
  have oMs : FnOk l.prog w K mg base CX0 1 gMs _ _ (spMSides K M) := ok_msides GMs B TM
  have oMr : FnOk l.prog w K mg base CX0 1 gMr _ _ (spMRow M) := ok_mrow GMr B TM
  have oMp : FnOk l.prog w K mg base CX0 1 gMp _ _ (spMPart K M) := ok_mpart GMp B TM
  have oMi : FnOk l.prog w K mg base CX0 3 gMi _ _ (spMInit M) := ok_minit GMi (no z_enumerate) TM ⟨_, _, at_ aOp, kOp, oOp, bOp⟩ ⟨_, _, ⟨iMb, nMb, kMb⟩, oMb, bMb⟩ ⟨_, _, ⟨iMc, nMc, kMc⟩, oMc, bMc⟩
  have oAm : FnOk l.prog w K mg base CX0 2 gAm _ _ spAmong := ok_among GAm B ⟨_, _, at_ aBa, kBa, oBa, bBa⟩
  have oBi : FnOk l.prog w K mg base CX0 5 gBi _ _ (spBInit K C M) := ok_binit GBi B TB ⟨_, _, at_ aIc, kIc, oIc, bIc⟩ ⟨_, _, at_ aAm, kAm, oAm, bAm⟩
  have oBc : FnOk l.prog w K mg base CX0 1 gBc _ _ (spBCl C M) := ok_bcl GBc B TB
  have oBv : FnOk l.prog w K mg base CX0 1 gBv _ _ (spBVar C M) := ok_bvar GBv B TB
  have oBe : FnOk l.prog w K mg base CX0 1 gBe _ _ (spEq (EqB C M)) := ok_beq GBe B TB
  have oNb : FnOk l.prog w K mg base CX0 1 gNb _ _ (spNeedB C M) := ok_needb GNb B TB
  have oBm : FnOk l.prog w K mg base CX0 5 gBm _ _ (spBMarks C M) := ok_bmarks GBm TB TM ⟨mkM, iMi, nMi, kM⟩ oMi bMi
  have oJo : FnOk l.prog w K mg base CX0 1 gJo _ _ spJoined := ok_joined GJo (no z_max)
  have oPo0 : FnOk l.prog w K mg base CX0 1 gPo _ _ (spPo M 0) := ok_po0 GPo
  have oOb0 : FnOk l.prog w K mg base CX0 2 gOb _ _ (spObw M 0) := ok_obw GOb B TM ⟨_, _, ⟨iMr, nMr, kMr⟩, oMr, bMr⟩ (by decide) _ _ (at_ aPo) kPo bPo oPo0
  have oPo1 : FnOk l.prog w K mg base CX0 3 gPo _ _ (spPo M 1) := ok_po GPo TM ⟨_, _, ⟨iMs, nMs, kMs⟩, oMs, bMs⟩ ⟨_, _, at_ aJo, kJo, oJo, bJo⟩ (by decide) ⟨_, _, at_ aOb, kOb, oOb0, bOb⟩
  have oOb1 : FnOk l.prog w K mg base CX0 4 gOb _ _ (spObw M 1) := ok_obw GOb B TM ⟨_, _, ⟨iMr, nMr, kMr⟩, oMr, bMr⟩ (by decide) _ _ (at_ aPo) kPo bPo oPo1
  have oPo2 : FnOk l.prog w K mg base CX0 5 gPo _ _ (spPo M 2) := ok_po GPo TM ⟨_, _, ⟨iMs, nMs, kMs⟩, oMs, bMs⟩ ⟨_, _, at_ aJo, kJo, oJo, bJo⟩ (by decide) ⟨_, _, at_ aOb, kOb, oOb1, bOb⟩
  have oOb2 : FnOk l.prog w K mg base CX0 6 gOb _ _ (spObw M 2) := ok_obw GOb B TM ⟨_, _, ⟨iMr, nMr, kMr⟩, oMr, bMr⟩ (by decide) _ _ (at_ aPo) kPo bPo oPo2
  have oPo3 : FnOk l.prog w K mg base CX0 7 gPo _ _ (spPo M 3) := ok_po GPo TM ⟨_, _, ⟨iMs, nMs, kMs⟩, oMs, bMs⟩ ⟨_, _, at_ aJo, kJo, oJo, bJo⟩ (by decide) ⟨_, _, at_ aOb, kOb, oOb2, bOb⟩
  have oOb3 : FnOk l.prog w K mg base CX0 8 gOb _ _ (spObw M 3) := ok_obw GOb B TM ⟨_, _, ⟨iMr, nMr, kMr⟩, oMr, bMr⟩ (by decide) _ _ (at_ aPo) kPo bPo oPo3
  have oPo4 : FnOk l.prog w K mg base CX0 9 gPo _ _ (spPo M 4) := ok_po GPo TM ⟨_, _, ⟨iMs, nMs, kMs⟩, oMs, bMs⟩ ⟨_, _, at_ aJo, kJo, oJo, bJo⟩ (by decide) ⟨_, _, at_ aOb, kOb, oOb3, bOb⟩
  have oOb4 : FnOk l.prog w K mg base CX0 10 gOb _ _ (spObw M 4) := ok_obw GOb B TM ⟨_, _, ⟨iMr, nMr, kMr⟩, oMr, bMr⟩ (by decide) _ _ (at_ aPo) kPo bPo oPo4
  have oPo5 : FnOk l.prog w K mg base CX0 11 gPo _ _ (spPo M 5) := ok_po GPo TM ⟨_, _, ⟨iMs, nMs, kMs⟩, oMs, bMs⟩ ⟨_, _, at_ aJo, kJo, oJo, bJo⟩ (by decide) ⟨_, _, at_ aOb, kOb, oOb4, bOb⟩
  have oOb5 : FnOk l.prog w K mg base CX0 12 gOb _ _ (spObw M 5) := ok_obw GOb B TM ⟨_, _, ⟨iMr, nMr, kMr⟩, oMr, bMr⟩ (by decide) _ _ (at_ aPo) kPo bPo oPo5
  have oPo6 : FnOk l.prog w K mg base CX0 13 gPo _ _ (spPo M 6) := ok_po GPo TM ⟨_, _, ⟨iMs, nMs, kMs⟩, oMs, bMs⟩ ⟨_, _, at_ aJo, kJo, oJo, bJo⟩ (by decide) ⟨_, _, at_ aOb, kOb, oOb5, bOb⟩
  have oOb6 : FnOk l.prog w K mg base CX0 14 gOb _ _ (spObw M 6) := ok_obw GOb B TM ⟨_, _, ⟨iMr, nMr, kMr⟩, oMr, bMr⟩ (by decide) _ _ (at_ aPo) kPo bPo oPo6
  have oOi : FnOk l.prog w K mg base CX0 15 gOi _ _ (spOit C M) := ok_oit GOi TB ⟨_, _, ⟨iBm, nBm, kBm⟩, oBm, bBm⟩ ⟨_, _, at_ aOb, kOb, oOb6, bOb⟩
  have oNt : FnOk l.prog w K mg base CX0 16 gNt _ _ (spNeedT C M) := ok_needt GNt ⟨_, _, at_ aOi, kOi, oOi, bOi⟩
  have oIp : FnOk l.prog w K mg base CX0 6 gIp _ _ (spPart K C M (.bl true)) := ok_ispart GIp TB TM ⟨_, _, at_ aNb, kNb, oNb, bNb⟩ ⟨_, _, ⟨iBm, nBm, kBm⟩, oBm, bBm⟩ ⟨_, _, ⟨iMp, nMp, kMp⟩, oMp, bMp⟩
  have oNp : FnOk l.prog w K mg base CX0 7 gNp _ _ (spPart K C M .non) := ok_needp GNp ⟨_, _, at_ aIp, kIp, oIp, bIp⟩
  have oWh : FnOk l.prog w K mg base CX0 8 gWh _ _ (spWhole K C M) := ok_whole GWh B TB ⟨_, _, at_ aNp, kNp, oNp, bNp⟩ ⟨_, _, ⟨iBv, nBv, kBv⟩, oBv, bBv⟩
  have oTk : FnOk l.prog w K mg base CX0 1 gTk _ _ (spTaken K) := ok_taken GTk
  have oLa : FnOk l.prog w K mg base CX0 17 gLa _ _ (spLeafAt K C M) := ok_leafat GLa ⟨_, _, at_ aNb, kNb, oNb, bNb⟩ ⟨_, _, at_ aNt, kNt, oNt, bNt⟩ ⟨_, _, at_ aWh, kWh, oWh, bWh⟩ ⟨_, _, at_ aPl, kPl, oPl, bPl⟩ ⟨_, _, at_ aTk, kTk, oTk, bTk⟩
  have oAo : FnOk l.prog w K mg base CX0 17 gAo _ _ (spAsked K C M) := ok_asked GAo ⟨_, _, at_ aNb, kNb, oNb, bNb⟩ ⟨_, _, at_ aNt, kNt, oNt, bNt⟩ ⟨_, _, at_ aWh, kWh, oWh, bWh⟩ ⟨_, _, at_ aPl, kPl, oPl, bPl⟩ ⟨_, _, at_ aTk, kTk, oTk, bTk⟩
  have oWb0 : FnOk l.prog w K mg base CX0 3 gWb _ _ (spWaysB K 0) := ok_waysb (m := 2) GWb ⟨_, _, at_ aPl, kPl, oPl, bPl⟩ ⟨_, _, at_ aOp, kOp, oOp, bOp⟩ (by decide) (at_ aWb) kWb bWb (.inl rfl)
  have oWb1 : FnOk l.prog w K mg base CX0 4 gWb _ _ (spWaysB K 1) := ok_waysb (m := 3) GWb ⟨_, _, at_ aPl, kPl, oPl, bPl⟩ ⟨_, _, at_ aOp, kOp, oOp, bOp⟩ (by decide) (at_ aWb) kWb bWb (.inr ⟨0, rfl, oWb0⟩)
  have oWb2 : FnOk l.prog w K mg base CX0 5 gWb _ _ (spWaysB K 2) := ok_waysb (m := 4) GWb ⟨_, _, at_ aPl, kPl, oPl, bPl⟩ ⟨_, _, at_ aOp, kOp, oOp, bOp⟩ (by decide) (at_ aWb) kWb bWb (.inr ⟨1, rfl, oWb1⟩)
  have oWb3 : FnOk l.prog w K mg base CX0 6 gWb _ _ (spWaysB K 3) := ok_waysb (m := 5) GWb ⟨_, _, at_ aPl, kPl, oPl, bPl⟩ ⟨_, _, at_ aOp, kOp, oOp, bOp⟩ (by decide) (at_ aWb) kWb bWb (.inr ⟨2, rfl, oWb2⟩)
  have oWb4 : FnOk l.prog w K mg base CX0 7 gWb _ _ (spWaysB K 4) := ok_waysb (m := 6) GWb ⟨_, _, at_ aPl, kPl, oPl, bPl⟩ ⟨_, _, at_ aOp, kOp, oOp, bOp⟩ (by decide) (at_ aWb) kWb bWb (.inr ⟨3, rfl, oWb3⟩)
  have oWb5 : FnOk l.prog w K mg base CX0 8 gWb _ _ (spWaysB K 5) := ok_waysb (m := 7) GWb ⟨_, _, at_ aPl, kPl, oPl, bPl⟩ ⟨_, _, at_ aOp, kOp, oOp, bOp⟩ (by decide) (at_ aWb) kWb bWb (.inr ⟨4, rfl, oWb4⟩)
  have oWb6 : FnOk l.prog w K mg base CX0 9 gWb _ _ (spWaysB K 6) := ok_waysb (m := 8) GWb ⟨_, _, at_ aPl, kPl, oPl, bPl⟩ ⟨_, _, at_ aOp, kOp, oOp, bOp⟩ (by decide) (at_ aWb) kWb bWb (.inr ⟨5, rfl, oWb5⟩)
  have oWl : FnOk l.prog w K mg base CX0 17 gWl _ _ (spWays K C M) := ok_ways GWl B ⟨_, _, at_ aNb, kNb, oNb, bNb⟩ ⟨_, _, at_ aNt, kNt, oNt, bNt⟩ ⟨_, _, at_ aWb, kWb, oWb6, bWb⟩ ⟨_, _, at_ aOr, kOr, oOr, bOr⟩
  have oHs : FnOk l.prog w K mg base CX0 18 gHs _ _ (spHeights C M) := ok_heights GHs B ⟨_, _, at_ aWl, kWl, oWl, bWl⟩
  have oLp : FnOk l.prog w K mg base CX0 1 gLp _ _ (spPurse K) := ok_purse GLp D
  have oLd : FnOk l.prog w K mg base CX0 2 gLd _ _ spDraw := ok_draw GLd D (at_ aLm) GLm bLm
  have oOo : FnOk l.prog w K mg base CX0 3 gOo _ _ (spOne K) := ok_one GOo B ⟨_, _, at_ aLd, kLd, oLd, bLd⟩
  have oSh : FnOk l.prog w K mg base CX0 3 gSh _ _ (spShuf K) := ok_shuf GSh (no z_len) (at_ aLd) kLd oLd bLd
  have oE0 : FnOk l.prog w K mg base CX0 1 gEx _ _ (spExact K 0) := ok_exact0 GEx E
  have oE1 : FnOk l.prog w K mg base CX0 2 gEx _ _ (spExact K 1) := ok_exactS GEx E (at_ aEx) bEx oE0
  have oE2 : FnOk l.prog w K mg base CX0 3 gEx _ _ (spExact K 2) := ok_exactS GEx E (at_ aEx) bEx oE1
  have oE3 : FnOk l.prog w K mg base CX0 4 gEx _ _ (spExact K 3) := ok_exactS GEx E (at_ aEx) bEx oE2
  have oLw : FnOk l.prog w K mg base CX0 4 gLw _ _ spWord := ok_word GLw D (at_ aLd) kLd oLd bLd
  have oWs : FnOk l.prog w K mg base CX0 5 gWs _ _ spWords := ok_words GWs (no z_len) (no z_range) (no z_list) (at_ aLd) kLd oLd bLd (at_ aLw) kLw oLw bLw
  have oLc : FnOk l.prog w K mg base CX0 1 gLc _ _ (spLOne oppS) := ok_lcon GLc
  have oLb : FnOk l.prog w K mg base CX0 1 gLb _ _ (spLOne bareS) := ok_lbare GLb
  have oLl : FnOk l.prog w K mg base CX0 1 gLl _ _ (spLCl K) := ok_lcl GLl B
  have oRw : FnOk l.prog w K mg base CX0 1 gRw _ _ (spRows K) := ok_rows GRw B
  have oLn : FnOk l.prog w K mg base CX0 2 gLn _ _ (spNames K) := ok_names GLn B ⟨_, _, at_ aLb, kLb, oLb, bLb⟩
  have oLk : FnOk l.prog w K mg base CX0 2 gLk _ _ (spLBreaks K) := ok_lbreaks GLk B ⟨_, _, at_ aLc, kLc, oLc, bLc⟩
  have oLo : FnOk l.prog w K mg base CX0 3 gLo _ _ (spFilt K) := ok_lbroken GLo ⟨_, _, at_ aLk, kLk, oLk, bLk⟩
  have oPa : FnOk l.prog w K mg base CX0 1 gPa _ _ (spParts2 K) := ok_parts2 GPa (no z_sorted) (no z_tuple)
  have oFi : FnOk l.prog w K mg base CX0 4 gFi _ _ (spFills K) := ok_fills GFi B ⟨_, _, at_ aPa, kPa, oPa, bPa⟩ ⟨_, _, at_ aLo, kLo, oLo, bLo⟩
  have oDc : FnOk l.prog w K mg base CX0 4 gDc _ _ (spDrawn K) := ok_drawn GDc (no z_len) (no z_min) (at_ aSh) kSh oSh bSh (at_ aLd) kLd oLd bLd (at_ aLl) kLl oLl bLl
  have oDr : FnOk l.prog w K mg base CX0 5 gDr _ _ (spDrawnR K) := ok_drawnr GDr D ⟨_, _, at_ aRw, kRw, oRw, bRw⟩ ⟨_, _, at_ aDc, kDc, oDc, bDc⟩
  have oUf : FnOk l.prog w K mg base CX0 6 gUf _ _ (spUnf K) := ok_unf GUf B ⟨_, _, at_ aRw, kRw, oRw, bRw⟩ ⟨_, _, at_ aDr, kDr, oDr, bDr⟩ ⟨_, _, at_ aFi, kFi, oFi, bFi⟩ ⟨_, _, at_ aSh, kSh, oSh, bSh⟩ ⟨_, _, at_ aOo, kOo, oOo, bOo⟩ ⟨_, _, at_ aLd, kLd, oLd, bLd⟩ ⟨_, _, at_ aLl, kLl, oLl, bLl⟩ ⟨_, _, at_ aLc, kLc, oLc, bLc⟩
  have oSg : FnOk l.prog w K mg base CX0 2 gSg _ _ (spSigns K) := ok_signs GSg B ⟨_, _, at_ aRw, kRw, oRw, bRw⟩
  have oRi : FnOk l.prog w K mg base CX0 2 gRi _ _ (spRing K) := ok_ring GRi (no z_zip) ⟨_, _, at_ aRw, kRw, oRw, bRw⟩ ⟨_, _, at_ aLl, kLl, oLl, bLl⟩
  have oTu : FnOk l.prog w K mg base CX0 2 gTu _ _ (spTurned K) := ok_turned GTu ⟨_, _, at_ aRw, kRw, oRw, bRw⟩ ⟨_, _, at_ aLl, kLl, oLl, bLl⟩ ⟨_, _, at_ aLb, kLb, oLb, bLb⟩ ⟨_, _, at_ aLc, kLc, oLc, bLc⟩
  have oHd : FnOk l.prog w K mg base CX0 7 gHd _ _ (spHard K) := ok_hard GHd B (no z_range) ⟨_, _, at_ aWs, kWs, oWs, bWs⟩ ⟨_, _, at_ aLd, kLd, oLd, bLd⟩ ⟨_, _, at_ aUf, kUf, oUf, bUf⟩ ⟨_, _, at_ aSg, kSg, oSg, bSg⟩ ⟨_, _, at_ aDc, kDc, oDc, bDc⟩ ⟨_, _, at_ aRi, kRi, oRi, bRi⟩ ⟨_, _, at_ aSh, kSh, oSh, bSh⟩ ⟨_, _, at_ aTu, kTu, oTu, bTu⟩
  have oMd : FnOk l.prog w K mg base CX0 7 gMd _ _ (spMade K C M) := ok_made GMd B TB ⟨mkC, iBi, nBi, kC⟩ oBi bBi
  have oSt : FnOk l.prog w K mg base CX0 8 gSt _ _ (spStays K C M) := ok_stays GSt TB ⟨_, _, ⟨iBc, nBc, kBc⟩, oBc, bBc⟩ ⟨_, _, ⟨iBv, nBv, kBv⟩, oBv, bBv⟩ ⟨_, _, ⟨iBe, nBe, kBe⟩, oBe, bBe⟩ ⟨_, _, at_ aEx, kEx, oE3, bEx⟩ ⟨_, _, at_ aLn, kLn, oLn, bLn⟩ ⟨_, _, at_ aMd, kMd, oMd, bMd⟩
  have oLf : FnOk l.prog w K mg base CX0 1 gLf _ _ spLeaf := ok_leaf GLf B
  have oOw0 : ∀ ps nn c, Bk ps nn c → FnOk l.prog w K mg base CX0 4 gOw _ _ (spOwn K ps nn 0) := fun ps nn c bk => ok_own (m := 3) GOw (by decide) bk.un bk.gd bk.lo bk.n6 bk.few bk.nm ⟨_, _, at_ aLo, kLo, oLo, bLo⟩ ⟨_, _, at_ aLn, kLn, oLn, bLn⟩ ⟨_, _, at_ aLd, kLd, oLd, bLd⟩ ⟨_, _, at_ aOo, kOo, oOo, bOo⟩ (at_ aOw) kOw bOw (.inl rfl)
  have oOw1 : ∀ ps nn c, Bk ps nn c → FnOk l.prog w K mg base CX0 5 gOw _ _ (spOwn K ps nn 1) := fun ps nn c bk => ok_own (m := 4) GOw (by decide) bk.un bk.gd bk.lo bk.n6 bk.few bk.nm ⟨_, _, at_ aLo, kLo, oLo, bLo⟩ ⟨_, _, at_ aLn, kLn, oLn, bLn⟩ ⟨_, _, at_ aLd, kLd, oLd, bLd⟩ ⟨_, _, at_ aOo, kOo, oOo, bOo⟩ (at_ aOw) kOw bOw (.inr ⟨0, rfl, oOw0 ps nn c bk⟩)
  have oOw2 : ∀ ps nn c, Bk ps nn c → FnOk l.prog w K mg base CX0 6 gOw _ _ (spOwn K ps nn 2) := fun ps nn c bk => ok_own (m := 5) GOw (by decide) bk.un bk.gd bk.lo bk.n6 bk.few bk.nm ⟨_, _, at_ aLo, kLo, oLo, bLo⟩ ⟨_, _, at_ aLn, kLn, oLn, bLn⟩ ⟨_, _, at_ aLd, kLd, oLd, bLd⟩ ⟨_, _, at_ aOo, kOo, oOo, bOo⟩ (at_ aOw) kOw bOw (.inr ⟨1, rfl, oOw1 ps nn c bk⟩)
  have oOw3 : ∀ ps nn c, Bk ps nn c → FnOk l.prog w K mg base CX0 7 gOw _ _ (spOwn K ps nn 3) := fun ps nn c bk => ok_own (m := 6) GOw (by decide) bk.un bk.gd bk.lo bk.n6 bk.few bk.nm ⟨_, _, at_ aLo, kLo, oLo, bLo⟩ ⟨_, _, at_ aLn, kLn, oLn, bLn⟩ ⟨_, _, at_ aLd, kLd, oLd, bLd⟩ ⟨_, _, at_ aOo, kOo, oOo, bOo⟩ (at_ aOw) kOw bOw (.inr ⟨2, rfl, oOw2 ps nn c bk⟩)
  have oOw4 : ∀ ps nn c, Bk ps nn c → FnOk l.prog w K mg base CX0 8 gOw _ _ (spOwn K ps nn 4) := fun ps nn c bk => ok_own (m := 7) GOw (by decide) bk.un bk.gd bk.lo bk.n6 bk.few bk.nm ⟨_, _, at_ aLo, kLo, oLo, bLo⟩ ⟨_, _, at_ aLn, kLn, oLn, bLn⟩ ⟨_, _, at_ aLd, kLd, oLd, bLd⟩ ⟨_, _, at_ aOo, kOo, oOo, bOo⟩ (at_ aOw) kOw bOw (.inr ⟨3, rfl, oOw3 ps nn c bk⟩)
  have oOw5 : ∀ ps nn c, Bk ps nn c → FnOk l.prog w K mg base CX0 9 gOw _ _ (spOwn K ps nn 5) := fun ps nn c bk => ok_own (m := 8) GOw (by decide) bk.un bk.gd bk.lo bk.n6 bk.few bk.nm ⟨_, _, at_ aLo, kLo, oLo, bLo⟩ ⟨_, _, at_ aLn, kLn, oLn, bLn⟩ ⟨_, _, at_ aLd, kLd, oLd, bLd⟩ ⟨_, _, at_ aOo, kOo, oOo, bOo⟩ (at_ aOw) kOw bOw (.inr ⟨4, rfl, oOw4 ps nn c bk⟩)
  have oOw6 : ∀ ps nn c, Bk ps nn c → FnOk l.prog w K mg base CX0 10 gOw _ _ (spOwn K ps nn 6) := fun ps nn c bk => ok_own (m := 9) GOw (by decide) bk.un bk.gd bk.lo bk.n6 bk.few bk.nm ⟨_, _, at_ aLo, kLo, oLo, bLo⟩ ⟨_, _, at_ aLn, kLn, oLn, bLn⟩ ⟨_, _, at_ aLd, kLd, oLd, bLd⟩ ⟨_, _, at_ aOo, kOo, oOo, bOo⟩ (at_ aOw) kOw bOw (.inr ⟨5, rfl, oOw5 ps nn c bk⟩)
  have oOw : FnOk l.prog w K mg base CX0 10 gOw _ _ (spOwnA K) := ⟨fun vs H Q E h => by
      obtain ⟨ps, nn, c, bk, h'⟩ := h
      exact (oOw6 ps nn c bk).len vs H Q E h', fun A outer s H args us vs Q E hr he hb hv h => by
      obtain ⟨ps, nn, c, bk, h'⟩ := h
      exact (oOw6 ps nn c bk).run A outer s H args us vs Q E hr he hb hv h'⟩
  have oLv0 : ∀ rows ns, FnOk l.prog w K mg base CX0 2 gLv _ _ (spLWays rows ns 0) := fun rows ns => ok_lways (m := 1) GLv B ⟨_, _, at_ aLf, kLf, oLf, bLf⟩ (by decide) (at_ aLv) kLv bLv (.inl rfl)
  have oLv1 : ∀ rows ns, FnOk l.prog w K mg base CX0 3 gLv _ _ (spLWays rows ns 1) := fun rows ns => ok_lways (m := 2) GLv B ⟨_, _, at_ aLf, kLf, oLf, bLf⟩ (by decide) (at_ aLv) kLv bLv (.inr ⟨0, rfl, oLv0 rows ns⟩)
  have oLv2 : ∀ rows ns, FnOk l.prog w K mg base CX0 4 gLv _ _ (spLWays rows ns 2) := fun rows ns => ok_lways (m := 3) GLv B ⟨_, _, at_ aLf, kLf, oLf, bLf⟩ (by decide) (at_ aLv) kLv bLv (.inr ⟨1, rfl, oLv1 rows ns⟩)
  have oLv3 : ∀ rows ns, FnOk l.prog w K mg base CX0 5 gLv _ _ (spLWays rows ns 3) := fun rows ns => ok_lways (m := 4) GLv B ⟨_, _, at_ aLf, kLf, oLf, bLf⟩ (by decide) (at_ aLv) kLv bLv (.inr ⟨2, rfl, oLv2 rows ns⟩)
  have oLv4 : ∀ rows ns, FnOk l.prog w K mg base CX0 6 gLv _ _ (spLWays rows ns 4) := fun rows ns => ok_lways (m := 5) GLv B ⟨_, _, at_ aLf, kLf, oLf, bLf⟩ (by decide) (at_ aLv) kLv bLv (.inr ⟨3, rfl, oLv3 rows ns⟩)
  have oLv5 : ∀ rows ns, FnOk l.prog w K mg base CX0 7 gLv _ _ (spLWays rows ns 5) := fun rows ns => ok_lways (m := 6) GLv B ⟨_, _, at_ aLf, kLf, oLf, bLf⟩ (by decide) (at_ aLv) kLv bLv (.inr ⟨4, rfl, oLv4 rows ns⟩)
  have oLv6 : ∀ rows ns, FnOk l.prog w K mg base CX0 8 gLv _ _ (spLWays rows ns 6) := fun rows ns => ok_lways (m := 7) GLv B ⟨_, _, at_ aLf, kLf, oLf, bLf⟩ (by decide) (at_ aLv) kLv bLv (.inr ⟨5, rfl, oLv5 rows ns⟩)
  have oLe : FnOk l.prog w K mg base CX0 2 gLe _ _ (spLed K) := ok_led GLe ⟨_, _, at_ aLf, kLf, oLf, bLf⟩
  have oTr : FnOk l.prog w K mg base CX0 19 gTr _ _ (spRight K C M) := ok_right GTr B TB (fun rows ns => ⟨_, _, at_ aLv, kLv, oLv6 rows ns, bLv⟩) ⟨_, _, at_ aLn, kLn, oLn, bLn⟩ ⟨_, _, at_ aWl, kWl, oWl, bWl⟩ ⟨_, _, at_ aHs, kHs, oHs, bHs⟩ ⟨_, _, at_ aEx, kEx, oE3, bEx⟩ ⟨_, _, at_ aMd, kMd, oMd, bMd⟩ ⟨_, _, at_ aSh, kSh, oSh, bSh⟩ ⟨_, _, at_ aPa, kPa, oPa, bPa⟩ ⟨_, _, at_ aAo, kAo, oAo, bAo⟩ ⟨_, _, at_ aLe, kLe, oLe, bLe⟩ ⟨_, _, at_ aLa, kLa, oLa, bLa⟩ ⟨_, _, at_ aLk, kLk, oLk, bLk⟩
  exact ok_law GLx B ⟨_, _, at_ aLp, kLp, oLp, bLp⟩ ⟨_, _, at_ aHd, kHd, oHd, bHd⟩ ⟨_, _, at_ aLd, kLd, oLd, bLd⟩ ⟨_, _, at_ aMd, kMd, oMd, bMd⟩ ⟨_, _, at_ aOw, kOw, oOw, bOw⟩ ⟨_, _, at_ aTr, kTr, oTr, bTr⟩ ⟨_, _, at_ aSt, kSt, oSt, bSt⟩ ⟨_, _, at_ aEx, kEx, oE3, bEx⟩ ⟨_, _, at_ aWl, kWl, oWl, bWl⟩ ⟨_, _, at_ aHs, kHs, oHs, bHs⟩ ⟨_, _, at_ aLa, kLa, oLa, bLa⟩
end My
end

open PySem PySem.W PyProof.Rows
set_option Elab.async false
set_option maxRecDepth 100000
set_option maxHeartbeats 0
open_top k23_head for PySem.Challenge.rw_lookdepths_k23_whole_ways_to_leaves

set_option Elab.async false
set_option linter.all false
set_option maxRecDepth 100000
set_option maxHeartbeats 0
open PySem PySem.W PyProof.Rows
theorem PySem.Challenge.cw_lookdepths_k23_whole_ways_to_leaves_holds : PySem.Challenge.rw_lookdepths_k23_whole_ways_to_leaves.Holds :=
  k23_head (by
    k_fill
    refine My.walk (l := PySem.Challenge.rw_lookdepths_k23_whole_ways_to_leaves) rfl rfl (fun w h Y => PySem.W.kIn_of Y) ?F
    case F =>
      intro w mg fa h KX G hmg
      refine' My.all_mk KX G hmg ?z_sum ?z_int ?z_max ?z_min ?z_len ?z_range ?z_isinstance ?z_all ?z_any ?z_list ?z_dict ?z_tuple ?z_str ?z_sorted ?z_set ?z_zip ?z_bool ?z_enumerate ?aMO ?aCC ?kC ?mkC ?pgC ?hdC ?poC ?saC ?aCM ?kM ?mkM ?pgM ?hdM ?poM ?saM ?na_rows ?na_names ?na_marks ?na_table ?nm_bits ?nm_sides ?nm_breaking ?nm_evens ?ci ?cn ?ct_ ?co_ ?aIv ?lIv ?cIv ?kIv ?aBa ?lBa ?cBa ?kBa ?aOp ?lOp ?cOp ?kOp ?aIl ?lIl ?cIl ?kIl ?aOr ?lOr ?cOr ?kOr ?aHa ?lHa ?cHa ?kHa ?aIc ?lIc ?cIc ?kIc ?aPl ?lPl ?cPl ?kPl ?iMb ?nMb ?lMb ?cMb ?kMb ?iMc ?nMc ?lMc ?cMc ?kMc ?iMs ?nMs ?lMs ?cMs ?kMs ?iMr ?nMr ?lMr ?cMr ?kMr ?iMp ?nMp ?lMp ?cMp ?kMp ?iMi ?nMi ?lMi ?cMi ?kMi ?aAm ?lAm ?cAm ?kAm ?iBi ?nBi ?lBi ?cBi ?kBi ?iBc ?nBc ?lBc ?cBc ?kBc ?iBv ?nBv ?lBv ?cBv ?kBv ?iBe ?nBe ?lBe ?cBe ?kBe ?aNb ?lNb ?cNb ?kNb ?iBm ?nBm ?lBm ?cBm ?kBm ?aJo ?lJo ?cJo ?kJo ?aOb ?lOb ?cOb ?kOb ?aPo ?lPo ?cPo ?kPo ?aOi ?lOi ?cOi ?kOi ?aNt ?lNt ?cNt ?kNt ?aIp ?lIp ?cIp ?kIp ?aNp ?lNp ?cNp ?kNp ?aWh ?lWh ?cWh ?kWh ?aTk ?lTk ?cTk ?kTk ?aLa ?lLa ?cLa ?kLa ?aAo ?lAo ?cAo ?kAo ?aWb ?lWb ?cWb ?kWb ?aWl ?lWl ?cWl ?kWl ?aHs ?lHs ?cHs ?kHs ?aLp ?lLp ?cLp ?kLp ?aLm ?lLm ?cLm ?kLm ?aLd ?lLd ?cLd ?kLd ?aOo ?lOo ?cOo ?kOo ?aSh ?lSh ?cSh ?kSh ?aEx ?lEx ?cEx ?kEx ?aLw ?lLw ?cLw ?kLw ?aWs ?lWs ?cWs ?kWs ?aLc ?lLc ?cLc ?kLc ?aLb ?lLb ?cLb ?kLb ?aLl ?lLl ?cLl ?kLl ?aRw ?lRw ?cRw ?kRw ?aLn ?lLn ?cLn ?kLn ?aLk ?lLk ?cLk ?kLk ?aLo ?lLo ?cLo ?kLo ?aPa ?lPa ?cPa ?kPa ?aFi ?lFi ?cFi ?kFi ?aDc ?lDc ?cDc ?kDc ?aDr ?lDr ?cDr ?kDr ?aUf ?lUf ?cUf ?kUf ?aSg ?lSg ?cSg ?kSg ?aRi ?lRi ?cRi ?kRi ?aTu ?lTu ?cTu ?kTu ?aHd ?lHd ?cHd ?kHd ?aMd ?lMd ?cMd ?kMd ?aSt ?lSt ?cSt ?kSt ?aLf ?lLf ?cLf ?kLf ?aOw ?lOw ?cOw ?kOw ?aLv ?lLv ?cLv ?kLv ?aLe ?lLe ?cLe ?kLe ?aTr ?lTr ?cTr ?kTr ?aLx ?lLx ?cLx ?kLx
      (case z_sum => k_is)
      (case z_int => k_is)
      (case z_max => k_is)
      (case z_min => k_is)
      (case z_len => k_is)
      (case z_range => k_is)
      (case z_isinstance => k_is)
      (case z_all => k_is)
      (case z_any => k_is)
      (case z_list => k_is)
      (case z_dict => k_is)
      (case z_tuple => k_is)
      (case z_str => k_is)
      (case z_sorted => k_is)
      (case z_set => k_is)
      (case z_zip => k_is)
      (case z_bool => k_is)
      (case z_enumerate => k_is)
      (case aMO => k_is)
      (case aCC => k_is)
      (case kC => k_is)
      (case mkC => k_is)
      (case pgC => k_is)
      (case hdC => k_is)
      (case poC => k_is)
      (case saC => k_is)
      (case aCM => k_is)
      (case kM => k_is)
      (case mkM => k_is)
      (case pgM => k_is)
      (case hdM => k_is)
      (case poM => k_is)
      (case saM => k_is)
      (case na_rows => k_is)
      (case na_names => k_is)
      (case na_marks => k_is)
      (case na_table => k_is)
      (case nm_bits => k_is)
      (case nm_sides => k_is)
      (case nm_breaking => k_is)
      (case nm_evens => k_is)
      (case ci => k_is)
      (case cn => k_is)
      (case ct_ => k_is)
      (case co_ => k_is)
      (case aIv => k_is)
      (case lIv => k_is)
      (case cIv => k_is)
      (case kIv => k_is)
      (case aBa => k_is)
      (case lBa => k_is)
      (case cBa => k_is)
      (case kBa => k_is)
      (case aOp => k_is)
      (case lOp => k_is)
      (case cOp => k_is)
      (case kOp => k_is)
      (case aIl => k_is)
      (case lIl => k_is)
      (case cIl => k_is)
      (case kIl => k_is)
      (case aOr => k_is)
      (case lOr => k_is)
      (case cOr => k_is)
      (case kOr => k_is)
      (case aHa => k_is)
      (case lHa => k_is)
      (case cHa => k_is)
      (case kHa => k_is)
      (case aIc => k_is)
      (case lIc => k_is)
      (case cIc => k_is)
      (case kIc => k_is)
      (case aPl => k_is)
      (case lPl => k_is)
      (case cPl => k_is)
      (case kPl => k_is)
      (case iMb => k_is)
      (case nMb => k_is)
      (case lMb => k_is)
      (case cMb => k_is)
      (case kMb => k_is)
      (case iMc => k_is)
      (case nMc => k_is)
      (case lMc => k_is)
      (case cMc => k_is)
      (case kMc => k_is)
      (case iMs => k_is)
      (case nMs => k_is)
      (case lMs => k_is)
      (case cMs => k_is)
      (case kMs => k_is)
      (case iMr => k_is)
      (case nMr => k_is)
      (case lMr => k_is)
      (case cMr => k_is)
      (case kMr => k_is)
      (case iMp => k_is)
      (case nMp => k_is)
      (case lMp => k_is)
      (case cMp => k_is)
      (case kMp => k_is)
      (case iMi => k_is)
      (case nMi => k_is)
      (case lMi => k_is)
      (case cMi => k_is)
      (case kMi => k_is)
      (case aAm => k_is)
      (case lAm => k_is)
      (case cAm => k_is)
      (case kAm => k_is)
      (case iBi => k_is)
      (case nBi => k_is)
      (case lBi => k_is)
      (case cBi => k_is)
      (case kBi => k_is)
      (case iBc => k_is)
      (case nBc => k_is)
      (case lBc => k_is)
      (case cBc => k_is)
      (case kBc => k_is)
      (case iBv => k_is)
      (case nBv => k_is)
      (case lBv => k_is)
      (case cBv => k_is)
      (case kBv => k_is)
      (case iBe => k_is)
      (case nBe => k_is)
      (case lBe => k_is)
      (case cBe => k_is)
      (case kBe => k_is)
      (case aNb => k_is)
      (case lNb => k_is)
      (case cNb => k_is)
      (case kNb => k_is)
      (case iBm => k_is)
      (case nBm => k_is)
      (case lBm => k_is)
      (case cBm => k_is)
      (case kBm => k_is)
      (case aJo => k_is)
      (case lJo => k_is)
      (case cJo => k_is)
      (case kJo => k_is)
      (case aOb => k_is)
      (case lOb => k_is)
      (case cOb => k_is)
      (case kOb => k_is)
      (case aPo => k_is)
      (case lPo => k_is)
      (case cPo => k_is)
      (case kPo => k_is)
      (case aOi => k_is)
      (case lOi => k_is)
      (case cOi => k_is)
      (case kOi => k_is)
      (case aNt => k_is)
      (case lNt => k_is)
      (case cNt => k_is)
      (case kNt => k_is)
      (case aIp => k_is)
      (case lIp => k_is)
      (case cIp => k_is)
      (case kIp => k_is)
      (case aNp => k_is)
      (case lNp => k_is)
      (case cNp => k_is)
      (case kNp => k_is)
      (case aWh => k_is)
      (case lWh => k_is)
      (case cWh => k_is)
      (case kWh => k_is)
      (case aTk => k_is)
      (case lTk => k_is)
      (case cTk => k_is)
      (case kTk => k_is)
      (case aLa => k_is)
      (case lLa => k_is)
      (case cLa => k_is)
      (case kLa => k_is)
      (case aAo => k_is)
      (case lAo => k_is)
      (case cAo => k_is)
      (case kAo => k_is)
      (case aWb => k_is)
      (case lWb => k_is)
      (case cWb => k_is)
      (case kWb => k_is)
      (case aWl => k_is)
      (case lWl => k_is)
      (case cWl => k_is)
      (case kWl => k_is)
      (case aHs => k_is)
      (case lHs => k_is)
      (case cHs => k_is)
      (case kHs => k_is)
      (case aLp => k_is)
      (case lLp => k_is)
      (case cLp => k_is)
      (case kLp => k_is)
      (case aLm => k_is)
      (case lLm => k_is)
      (case cLm => k_is)
      (case kLm => k_is)
      (case aLd => k_is)
      (case lLd => k_is)
      (case cLd => k_is)
      (case kLd => k_is)
      (case aOo => k_is)
      (case lOo => k_is)
      (case cOo => k_is)
      (case kOo => k_is)
      (case aSh => k_is)
      (case lSh => k_is)
      (case cSh => k_is)
      (case kSh => k_is)
      (case aEx => k_is)
      (case lEx => k_is)
      (case cEx => k_is)
      (case kEx => k_is)
      (case aLw => k_is)
      (case lLw => k_is)
      (case cLw => k_is)
      (case kLw => k_is)
      (case aWs => k_is)
      (case lWs => k_is)
      (case cWs => k_is)
      (case kWs => k_is)
      (case aLc => k_is)
      (case lLc => k_is)
      (case cLc => k_is)
      (case kLc => k_is)
      (case aLb => k_is)
      (case lLb => k_is)
      (case cLb => k_is)
      (case kLb => k_is)
      (case aLl => k_is)
      (case lLl => k_is)
      (case cLl => k_is)
      (case kLl => k_is)
      (case aRw => k_is)
      (case lRw => k_is)
      (case cRw => k_is)
      (case kRw => k_is)
      (case aLn => k_is)
      (case lLn => k_is)
      (case cLn => k_is)
      (case kLn => k_is)
      (case aLk => k_is)
      (case lLk => k_is)
      (case cLk => k_is)
      (case kLk => k_is)
      (case aLo => k_is)
      (case lLo => k_is)
      (case cLo => k_is)
      (case kLo => k_is)
      (case aPa => k_is)
      (case lPa => k_is)
      (case cPa => k_is)
      (case kPa => k_is)
      (case aFi => k_is)
      (case lFi => k_is)
      (case cFi => k_is)
      (case kFi => k_is)
      (case aDc => k_is)
      (case lDc => k_is)
      (case cDc => k_is)
      (case kDc => k_is)
      (case aDr => k_is)
      (case lDr => k_is)
      (case cDr => k_is)
      (case kDr => k_is)
      (case aUf => k_is)
      (case lUf => k_is)
      (case cUf => k_is)
      (case kUf => k_is)
      (case aSg => k_is)
      (case lSg => k_is)
      (case cSg => k_is)
      (case kSg => k_is)
      (case aRi => k_is)
      (case lRi => k_is)
      (case cRi => k_is)
      (case kRi => k_is)
      (case aTu => k_is)
      (case lTu => k_is)
      (case cTu => k_is)
      (case kTu => k_is)
      (case aHd => k_is)
      (case lHd => k_is)
      (case cHd => k_is)
      (case kHd => k_is)
      (case aMd => k_is)
      (case lMd => k_is)
      (case cMd => k_is)
      (case kMd => k_is)
      (case aSt => k_is)
      (case lSt => k_is)
      (case cSt => k_is)
      (case kSt => k_is)
      (case aLf => k_is)
      (case lLf => k_is)
      (case cLf => k_is)
      (case kLf => k_is)
      (case aOw => k_is)
      (case lOw => k_is)
      (case cOw => k_is)
      (case kOw => k_is)
      (case aLv => k_is)
      (case lLv => k_is)
      (case cLv => k_is)
      (case kLv => k_is)
      (case aLe => k_is)
      (case lLe => k_is)
      (case cLe => k_is)
      (case kLe => k_is)
      (case aTr => k_is)
      (case lTr => k_is)
      (case cTr => k_is)
      (case kTr => k_is)
      (case aLx => k_is)
      (case lLx => k_is)
      (case cLx => k_is)
      (case kLx => k_is))
