import PyProof.Rows.All
import Wide.All
import OpenK.AllK
import Wide.FinOn
import PySem.Challenge.RW_migraproof_k00_sample_and_spare_texts
import HandS.ForMost
import HandS.Set
import HandS.SetFor
import HandS.SetKeys
import HandS.Strs
import HandS.FStr
import PyProof.Rows.SortShellAny
import HandS.IsInst
import HandS.Defaults
import HandS.Zip
import HandS.Wide
set_option Elab.async false
set_option linter.all false
set_option maxRecDepth 100000
set_option maxHeartbeats 8000000
namespace Tq
open PySem PySem.Spec PyProof.Rows L2

/-! ### sets of texts, with the order of their table -/
def kS (e : Int × Value) : Str := match e.2 with
  | .str x _ => x
  | _ => Str.empty
def EntS (w : World) (e : Int × Value) : Prop := ∃ x u, e = (hashStr w x, Value.str x u)
structure TabS (w : World) (ob : Obj) (ks : List Str) (es : Array (Int × Value)) (ep : Nat) (tb : SetTable) : Prop where
  ex : ob.ExactSet
  da : ob.data = .set es ep tb
  en : ∀ e ∈ es.toList, EntS w e
  pm : (es.toList.map kS).Perm ks
  nd : ks.Nodup
  bd : es.size < scanBound
  ft : tb.fits es.size = true
  rs : Ris tb.place.toList
  ld : w.params.followText "set-order" = true ∨ tb.led = true
/-- the set of texts at a holds ks, each once -/
def TSet (w : World) (h : Heap) (a : Addr) (ks : List Str) : Prop := ∃ ob es ep tb, h.get? a = some ob ∧ TabS w ob ks es ep tb

section
variable {P : Program} {w : World} {A : Around} {E : Value → Shared → Prop} {s : Shared} {h h' : Heap} {a : Addr} {ks : List Str}
theorem TSet.keep (T : TSet w h a ks) (k : ∀ o, h.get? a = some o → h'.get? a = some o) : TSet w h' a ks :=
  let ⟨ob, es, ep, tb, g, t⟩ := T
  ⟨ob, es, ep, tb, k ob g, t⟩
theorem TSet.perm {ls : List Str} (T : TSet w h a ks) (p : ks.Perm ls) : TSet w h a ls :=
  let ⟨ob, es, ep, tb, g, t⟩ := T
  ⟨ob, es, ep, tb, g, ⟨t.ex, t.da, t.en, t.pm.trans p, p.nodup_iff.mp t.nd, t.bd, t.ft, t.rs, t.ld⟩⟩
theorem ent_is {e : Int × Value} (g : EntS w e) (k : Str) : (strKind P w).is k e.2 = true ↔ kS e = k := by
  obtain ⟨x, u, rfl⟩ := g
  show ((x == k) = true) ↔ x = k
  exact beq_iff_eq
theorem ents_of {l : List (Int × Value)} (g : ∀ e ∈ l, EntS w e) : ElemsOf (strKind P w) l := by
  intro e he
  obtain ⟨x, u, rfl⟩ := g e he
  exact ⟨⟨x, strKind_is P w x u, rfl⟩, rfl⟩
theorem mem_ents {l : List (Int × Value)} (g : ∀ e ∈ l, EntS w e) (k : Str) : k ∈ l.map kS ↔ ∃ e ∈ l, (strKind P w).is k e.2 = true := by
  constructor
  · intro m
    obtain ⟨e, he, q⟩ := List.mem_map.mp m
    exact ⟨e, he, (ent_is (g e he) k).mpr q⟩
  · rintro ⟨e, he, q⟩
    exact List.mem_map.mpr ⟨e, he, (ent_is (g e he) k).mp q⟩
theorem TabS.len {ob : Obj} {es : Array (Int × Value)} {ep : Nat} {tb : SetTable} (t : TabS w ob ks es ep tb) : es.size = ks.length := by
  have e := t.pm.length_eq
  simpa using e
theorem TSet.setOf (T : TSet w h a ks) : h.SetOf (strKind P w) a (fun k => decide (k ∈ ks)) ks.length := by
  obtain ⟨ob, es, ep, tb, g, t⟩ := T
  refine ⟨ob, es, ep, tb, g, t.ex, t.da, ents_of t.en, ?_, t.bd, t.ft, t.len⟩
  intro k
  rw [decide_eq_true_eq, ← t.pm.mem_iff]
  exact mem_ents t.en k

theorem put_get {ob : Obj} {es es' : Array (Int × Value)} {ep : Nat} {tb tb' : SetTable} (g : h.get? a = some ob) (d : ob.data = .set es ep tb) :
    (h.update a (Obj.putSet es' tb')).get? a = some { ob with data := .set es' (ep + 1) tb' } := by
  have z := Heap.get?_update_self (Obj.putSet es' tb') g (by rw [putSet_of es' tb' d]; rfl)
  rwa [putSet_of es' tb' d] at z

/-- the end of an addition: laid, and perhaps laid anew -/
theorem tail_laid {G : Bool → Sem Unit} (hG : ∀ (b : Bool) (s₁ : Shared) (Q' : Unit → Shared → Prop), Q' () s₁ → wpAny (model P w) A (G b) Q' E s₁)
    {ob : Obj} {es0 : Array (Int × Value)} {ep : Nat} {tb0 : SetTable} (g : s.heap.get? a = some ob) (x : ob.ExactSet) (d : ob.data = .set es0 ep tb0)
    {es : Array (Int × Value)} {tb : SetTable} (en : ∀ e ∈ es.toList, EntS w e) (pm : (es.toList.map kS).Perm ks) (nd : ks.Nodup) (bd : es.size < scanBound)
    (ft : tb.fits es.size = true) (rs : Ris tb.place.toList) (ld : w.params.followText "set-order" = true ∨ tb.led = true) {wd : Bool} {R : Option Bool → Shared → Prop}
    (hR : ∀ h', Heap.SameBut a s.heap h' → TSet w h' a ks → R (some true) { s with heap := h' }) :
    wpAny (model P w) A (do
      storeSet a es tb
      if (!wd && tb.tooFull) = true then do
        G (relayAll tb es (SetTable.grown es.size)).2.2
        storeSet a (relayAll tb es (SetTable.grown es.size)).1 (relayAll tb es (SetTable.grown es.size)).2.1
        pure (some true)
      else pure (some true)) R E s := by
  refine wpAny_bind (wpAny_storeSet_of g d ?_ (fits_of_scanBound bd))
  have g1 := put_get (es' := es) (tb' := tb) g d
  have b1 := Heap.SameBut.update s.heap a (Obj.putSet es tb)
  by_cases full : (!wd && tb.tooFull) = true
  · rw [if_pos full]
    have f1 := relayAll_perm tb es (SetTable.grown es.size)
    have f2 := relayAll_fits tb es (SetTable.grown es.size)
    have f3 := relayAll_ris tb es (SetTable.grown es.size)
    have f4 := relayAll_led tb es (SetTable.grown es.size)
    generalize relayAll tb es (SetTable.grown es.size) = Z at f1 f2 f3 f4 ⊢
    rcases Z with ⟨es2, tb2, gv⟩
    have z2 : es2.size = es.size := by simpa using f1.length_eq
    have bd2 : es2.size < scanBound := by omega
    refine wpAny_bind (hG _ _ _ (wpAny_bind (wpAny_storeSet_of g1 rfl ?_ (fits_of_scanBound bd2))))
    have g2 := put_get (es' := es2) (tb' := tb2) g1 rfl
    refine wpAny_pure (hR _ (b1.trans (Heap.SameBut.update _ a _)) ⟨_, es2, _, tb2, g2, x, rfl, ?_, (f1.map kS).trans pm, nd, bd2, f2, f3, ?_⟩)
    · intro e he
      exact en e (f1.mem_iff.mp he)
    · rcases ld with l | l
      · exact Or.inl l
      · exact Or.inr (f4.trans l)
  · rw [if_neg full]
    exact wpAny_pure (hR _ b1 ⟨_, es, _, tb, g1, x, rfl, en, pm, nd, bd, ft, rs, ld⟩)

theorem gave_way {b : Bool} {s₁ : Shared} {Q' : Unit → Shared → Prop} (q : Q' () s₁) : wpAny (model P w) A (match b with | true => rule "set.scan.the-table-gave-way" | false => pure ()) Q' E s₁ := by
  cases b
  · exact wpAny_pure q
  · exact wpAny_rule q

/-- a text is added by its hash -/
theorem add_hashed {x : Str} {u : Tok} {Q : Bool → Shared → Prop} (T : TSet w s.heap a ks) (room : ks.length + 1 < scanBound)
    (hQ : ∀ h', Heap.SameBut a s.heap h' → TSet w h' a (if x ∈ ks then ks else ks ++ [x]) → Q (!decide (x ∈ ks)) { s with heap := h' }) :
    wpAny (model P w) A (setAddHashed a (.str x u) ((strKind P w).hash x)) Q E s := by
  obtain ⟨ob, es, ep, tb, g, t⟩ := T
  have ln := t.len
  have hk : (strKind P w).is x (.str x u) = true := strKind_is P w x u
  have sc : (Value.str x u).scannable = true := rfl
  have el : ElemsOf (strKind P w) es.toList := ents_of t.en
  unfold setAddHashed setAddHashedIn
  refine wpAny_holding (wpAny_bind (wpAny_setState_of g t.da t.ft ?_))
  dsimp only
  rw [byScan_of sc t.bd el, if_pos rfl]
  unfold setAddByScan
  refine wpAny_bind (wpAny_bind (wpAny_rule (wpAny_bind (wpAny_setScan_of hk g t.da t.ft el ?_))))
  cases fi : List.findIdx? (fun e => (strKind P w).is x e.2) es.toList with
  | some j =>
    obtain ⟨jl, jp, _⟩ := List.findIdx?_eq_some_iff_getElem.mp fi
    have mx : x ∈ ks := t.pm.mem_iff.mp ((mem_ents (P := P) t.en x).mpr ⟨_, List.getElem_mem jl, jp⟩)
    have q := hQ s.heap (Heap.SameBut.refl a s.heap) ⟨ob, es, ep, tb, g, by rw [if_pos mx]; exact t⟩
    rw [decide_eq_true mx] at q
    exact wpAny_pure (wpAny_pure q)
  | none =>
    have nm : x ∉ es.toList.map kS := by
      intro m
      obtain ⟨e, he, q⟩ := (mem_ents (P := P) t.en x).mp m
      have c := List.findIdx?_eq_none_iff.mp fi e he
      simp [q] at c
    have nx : x ∉ ks := fun m => nm (t.pm.mem_iff.mpr m)
    have l1 := layNew_perm tb es ((strKind P w).hash x) (.str x u)
    have l2 := layNew_fits tb es ((strKind P w).hash x) (.str x u)
    have l3 := layNew_ris tb es ((strKind P w).hash x) (.str x u) t.rs
    have l4 := layNew_led tb es ((strKind P w).hash x) (.str x u)
    dsimp only
    generalize layNew tb es ((strKind P w).hash x) (.str x u) = Z at l1 l2 l3 l4 ⊢
    rcases Z with ⟨es1, tb1, wd, gv⟩
    dsimp only at l1 l2 l3 l4 ⊢
    rw [Array.toList_push] at l1
    have en1 : ∀ e ∈ es1.toList, EntS w e := by
      intro e he
      rcases List.mem_append.mp (l1.mem_iff.mp he) with m | m
      · exact t.en e m
      · rw [List.mem_singleton.mp m]
        exact ⟨x, u, rfl⟩
    have pm1 : (es1.toList.map kS).Perm (ks ++ [x]) := by
      refine (l1.map kS).trans ?_
      rw [List.map_append]
      exact t.pm.append_right [x]
    have nd1 : (ks ++ [x]).Nodup := by
      rw [List.nodup_append]
      exact ⟨t.nd, by simp, fun y hy z hz e => nx (by rw [List.mem_singleton.mp hz] at e; exact e ▸ hy)⟩
    have z1 : es1.size = ks.length + 1 := by
      have := pm1.length_eq
      simpa using this
    have bd1 : es1.size < scanBound := by omega
    have ld1 : w.params.followText "set-order" = true ∨ tb1.led = true := by
      rcases t.ld with l | l
      · exact Or.inl l
      · exact Or.inr (l4.trans l)
    have done : ∀ h', Heap.SameBut a s.heap h' → TSet w h' a (ks ++ [x]) → Q true { s with heap := h' } := by
      intro h' b T'
      have q := hQ h' b (by rw [if_neg nx]; exact T')
      rwa [decide_eq_false nx] at q
    refine wpAny_bind (gave_way ?_)
    split
    · refine wpAny_bind ?_
      rw [hashByValue_scannable 8 sc]
      refine wpAny_pure (tail_laid (fun b s₁ Q' q => gave_way q) g t.ex t.da en1 pm1 nd1 bd1 ?_ ?_ ?_ fun h' b T' => ?_)
      · first | (split <;> first | exact l2 | exact SetTable.fits_plain_off l2) | exact l2
      · first | (split <;> exact l3) | exact l3
      · first | (split <;> exact ld1) | exact ld1
      · dsimp only
        exact wpAny_pure (done h' b T')
    · refine wpAny_bind (wpAny_pure ?_)
      simp only [↓reduceIte]
      refine tail_laid (fun b s₁ Q' q => gave_way q) g t.ex t.da en1 pm1 nd1 bd1 l2 l3 ld1 fun h' b T' => ?_
      dsimp only
      exact wpAny_pure (done h' b T')
end

/-! ### set(t), set(l) of texts -/
def step1 (ks : List Str) (x : Str) : List Str := if x ∈ ks then ks else ks ++ [x]
/-- the texts, each once, by their first places -/
def once (xs : List Str) : List Str := xs.foldl step1 []
theorem once_snoc (xs : List Str) (x : Str) : once (xs ++ [x]) = step1 (once xs) x := by
  unfold once
  rw [List.foldl_append]
  rfl
theorem step1_mem (ks : List Str) (x y : Str) : y ∈ step1 ks x ↔ y ∈ ks ∨ y = x := by
  unfold step1
  split
  · rename_i h
    constructor
    · exact Or.inl
    · rintro (h2 | h2)
      · exact h2
      · exact h2 ▸ h
  · simp
theorem step1_nd {ks : List Str} (x : Str) (h : ks.Nodup) : (step1 ks x).Nodup := by
  unfold step1
  split
  · exact h
  · rename_i nx
    rw [List.nodup_append]
    exact ⟨h, by simp, fun y hy z hz e => nx (by rw [List.mem_singleton.mp hz] at e; exact e ▸ hy)⟩
theorem step1_len (ks : List Str) (x : Str) : (step1 ks x).length ≤ ks.length + 1 := by
  unfold step1
  split <;> simp
theorem fold_mem (xs : List Str) : ∀ (ks : List Str) (y : Str), y ∈ xs.foldl step1 ks ↔ y ∈ ks ∨ y ∈ xs := by
  induction xs with
  | nil => intro ks y; simp
  | cons x r ih =>
    intro ks y
    rw [List.foldl_cons, ih, step1_mem, List.mem_cons, or_assoc]
theorem once_mem (xs : List Str) (y : Str) : y ∈ once xs ↔ y ∈ xs := by
  unfold once
  rw [fold_mem]
  simp
theorem fold_nd (xs : List Str) : ∀ ks : List Str, ks.Nodup → (xs.foldl step1 ks).Nodup := by
  induction xs with
  | nil => intro ks h; exact h
  | cons x r ih => intro ks h; exact ih _ (step1_nd x h)
theorem once_nd (xs : List Str) : (once xs).Nodup := fold_nd xs [] List.nodup_nil
theorem fold_len (xs : List Str) : ∀ ks : List Str, (xs.foldl step1 ks).length ≤ ks.length + xs.length := by
  induction xs with
  | nil => intro ks; simp
  | cons x r ih =>
    intro ks
    have a := ih (step1 ks x)
    have b := step1_len ks x
    rw [List.foldl_cons, List.length_cons]
    omega
theorem once_len (xs : List Str) : (once xs).length ≤ xs.length := by
  have := fold_len xs []
  simpa [once] using this
theorem once_take {xs : List Str} {i : Nat} {x : Str} (h : xs[i]? = some x) : once (xs.take (i + 1)) = step1 (once (xs.take i)) x := by
  rw [List.take_add_one, h]
  exact once_snoc _ _

section
variable {P : Program} {w : World} {A : Around} {E : Value → Shared → Prop} {s : Shared}
theorem fill_loop {I : Addr} {fp wr : List Addr} {G : Array GenState → Array GenState → Prop} {n : Nat} {Pv : Nat → Value → Prop} {St : Nat → Shared → Prop} {R : Result → Shared → Prop}
    (W : WalksS P w A.in1 I fp wr G n Pv St) (S : Addr) (hS : S ∉ fp) (xs : List Str) (hn : n = xs.length) (hb : xs.length + 1 < scanBound) (hv : ∀ i v, Pv i v → ∃ x u, xs[i]? = some x ∧ v = .str x u)
    (fin : ∀ s', Moved (S :: wr) G s s' → TSet w s'.heap S (once xs) → R (.ok (.ret .none)) s') :
    ∀ (k i : Nat) (t : Shared), n - i = k → i ≤ n → St i t → TSet w t.heap S (once (xs.take i)) → Moved (S :: wr) G s t →
      codeAny (model P w) A (.builtin "set.update.loop" ⟨[.ref S, .ref I], []⟩) R t := by
  have hw : S ∉ wr := fun m => hS (W.sub _ m)
  have up : ∀ b ∈ wr, b ∈ S :: wr := fun b m => List.mem_cons_of_mem _ m
  intro k
  induction k with
  | zero =>
    intro i t e1 e2 st T mv
    have ei : i = xs.length := by omega
    refine codeAny_builtin F.entry_set_update_loop ?_
    rw [Around.under_plainId F.plain_set_update_loop _]
    show wpAny _ A.in1 (pyNext (.ref I) >>= _) _ _ t
    refine wpAny_bind (W.done t _ _ (by rw [← hn] at ei; rw [← ei]; exact st) fun t' m => ?_)
    show wpAny _ A.in1 (ret Value.none) _ _ t'
    have T' : TSet w t'.heap S (once (xs.take i)) := T.keep fun o g => m.heap S o hw g
    rw [ei, List.take_length] at T'
    exact wpAny_pure (fin t' (mv.trans W.gtrans (m.mono up)) T')
  | succ k ih =>
    intro i t e1 e2 st T mv
    have lt : i < n := by omega
    refine codeAny_builtin F.entry_set_update_loop ?_
    rw [Around.under_plainId F.plain_set_update_loop _]
    show wpAny _ A.in1 (pyNext (.ref I) >>= _) _ _ t
    refine wpAny_bind (W.item i t _ _ lt st fun v t' pv st' m => ?_)
    obtain ⟨x, u, hx, rfl⟩ := hv i v pv
    have T' : TSet w t'.heap S (once (xs.take i)) := T.keep fun o g => m.heap S o hw g
    have ln : (once (xs.take i)).length ≤ xs.length := Nat.le_trans (once_len _) (by rw [List.length_take]; exact Nat.min_le_right _ _)
    show wpAny _ A.in1 (holding [Value.str x u] (setAdd S (.str x u)) >>= _) _ _ t'
    refine wpAny_bind (wpAny_holding ?_)
    unfold setAdd
    refine wpAny_holding (wpAny_bind ((strKind P w).pyHash (k := x) (strKind_is _ _ _ _) ?_))
    refine add_hashed (s := { t' with toks := t'.toks + 1 }) T' (by omega) fun h' sb T2 => ?_
    have T3 : TSet w h' S (once (xs.take (i + 1))) := by
      rw [once_take hx]
      exact T2
    refine wpAny_pure ⟨plainId_quiet F.plain_set_update_loop _, ih (i + 1) _ (by omega) lt (W.frame _ t' _ _ st' (Nat.le_succ _) fun b m' o g => ?_) T3 ?_⟩
    · rw [sb.2 b fun z : b = S => hS (z ▸ m')]
      exact g
    · refine mv.trans W.gtrans ((m.mono up).then_heap (Nat.le_succ _) fun b o nb g => ?_)
      rw [sb.2 b fun z : b = S => nb (z ▸ List.mem_cons_self)]
      exact g
end

section
variable {P : Program} {w : World} {A : Around} {E : Value → Shared → Prop} {s : Shared}
/-- the object of a new set -/
abbrev noSet (w : World) : Obj := { cls := .type "set", dict := none, data := .set #[] 0 (.fresh 0 0 (!w.params.followText "set-order")) }
theorem noSet_ok {h : Heap} {a : Addr} (g : h.get? a = some (noSet w)) : TSet w h a [] := by
  refine ⟨noSet w, #[], 0, _, g, ⟨⟨rfl, rfl, rfl⟩, rfl, ?_, .nil, List.nodup_nil, by decide, rfl, List.Pairwise.nil, ?_⟩⟩
  · intro e m
    simp at m
  · show _ ∨ (!w.params.followText "set-order") = true
    cases w.params.followText "set-order" <;> simp
theorem strs_get : ∀ {us : List Value} {xs : List Str}, StrsAre us xs → ∀ (i : Nat) (v : Value), us[i]? = some v → ∃ x u, xs[i]? = some x ∧ v = .str x u
  | _, _, .nil, _, _, h => by simp at h
  | _, _, .cons x u _, 0, v, h => by
    simp at h
    exact ⟨x, u, rfl, h.symm⟩
  | _, _, .cons _ _ r, i + 1, v, h => strs_get r i v (by simpa using h)
/-- what set(..) leaves -/
def SetMade (w : World) (s : Shared) (xs : List Str) (z : Shared) : Prop := ∃ h' tk, z = { s with heap := h', toks := tk } ∧ TSet w h' s.heap.objs.size (once xs) ∧ ∀ b o, s.heap.get? b = some o → h'.get? b = some o


end
end Tq
namespace Tq
open PySem PySem.Spec PyProof.Rows L2
section
variable {P : Program} {w : World} {A : Around} {E : Value → Shared → Prop} {s : Shared}
set_option maxHeartbeats 8000000 in
theorem set_tup {l : Addr} {vs : Array Value} {xs : List Str} {Q : Value → Shared → Prop} (calm : A.handled = none) (hl : s.heap.IsTuple l vs) (sa : StrsAre vs.toList xs) (few : xs.length + 1 < scanBound)
    (k : ∀ z, SetMade w s xs z → Q (.ref s.heap.objs.size) z) : wpAny (model P w) A (call (.type "set") [.ref l]) Q E s := by
  have size : vs.size = xs.length := by rw [← StrsAre.len_eq sa, Array.length_toList]
  obtain ⟨c0, t0, mro⟩ := F.called_set.mro
  have f1 := F.called_set.made; have f2 := F.called_set.sub
  refine wpAny_call (codeAny_of_tree ?_)
  show wpAny _ _ (callAny (.type "set") _) _ _ _
  refine wpAny_pure ⟨Code.quiet_builtin _ (by decide +kernel), codeAny_builtin F.entry_type_call ?_⟩
  rw [Around.under_plain (weight_type_call_type "set" [.ref l] []) rfl]
  have f3 := F.called_set.notType; have f4 := F.called_set.canCreate; have f5 := F.typeCall_set_1 (.ref l)
  repeat (any_goals (first | assumption | wp_step))
  refine codeAny_mono (code_set_led1 (.ref l) (E := E) (Q₁ := fun o z => o = .ref s.heap.objs.size ∧ z = { s with heap := s.heap.push (noSet w) }) ⟨rfl, rfl⟩) fun r z hr => ?_
  match r, hr with
  | .error e, hr => exact hr
  | .ok (.ret o), hr =>
    obtain ⟨rfl, rfl⟩ := hr
    have g0 : (s.heap.push (noSet w)).get? s.heap.objs.size = some (noSet w) := Heap.get?_push_size _ rfl
    have ty : Shared.TypeIs { s with heap := s.heap.push (noSet w) } (.ref s.heap.objs.size) "set" := ⟨_, g0, rfl⟩
    have f6 := F.called_set.init.lookup; have f7 := F.called_set.init.bind (.ref s.heap.objs.size)
    repeat (any_goals (first | assumption | wp_step))
    refine codeAny_mono (codeAny_call_builtin (R := wants (fun r z => r = .none ∧ SetMade w s xs z) E) F.called_set.init.plain F.entry_set_init (check_set_init_1 ty ?_)) fun r z hr => ?_
    · obtain ⟨ob, gl, cl, n, dl⟩ := hl
      obtain ⟨_, dd, _, sl⟩ := ob
      simp only at cl dl
      subst cl; subst dl
      have gl' : (s.heap.push (noSet w)).get? l = some { cls := .type "tuple", dict := dd, data := .seq vs n, slots := sl } := Heap.get?_push_of_some _ gl
      have p1 := F.sub_tuple_set; have p2 := F.sub_tuple_frozenset
      have p3 : (Value.type "tuple" == Value.type "dict") = false := by decide
      have hl' : (s.heap.push (noSet w)).IsTuple l vs := ⟨_, gl', rfl, n, rfl⟩
      unfold Builtin.«set.__init__» noKeywords Builtin.Frozenset.updateFrom
      generalize hPI : pyIter = PI
      wp_walk
      subst hPI
      refine wpAny_pyIter_tuple hl' (wpAny_bind (wpAny_runValue ?_))
      have ll : l < s.heap.objs.size := Heap.lt_size gl
      have zz : (s.heap.push (noSet w)).objs.size = s.heap.objs.size + 1 := Heap.size_push ..
      have ne : l ≠ (s.heap.push (noSet w)).objs.size := by
        rw [zz]; exact Nat.ne_of_lt (Nat.lt_succ_of_lt ll)
      have nf : s.heap.objs.size ∉ [(s.heap.push (noSet w)).objs.size, l] := by
        rw [zz]
        simp only [List.mem_cons, List.not_mem_nil, or_false, not_or]
        exact ⟨Nat.ne_of_lt (Nat.lt_succ_self _), Nat.ne_of_gt ll⟩
      have val : ∀ (i : Nat) (v : Value), vs[i]? = some v → ∃ x u, xs[i]? = some x ∧ v = .str x u := fun i v e => strs_get sa i v (by rw [Array.getElem?_toList]; exact e)
      refine fill_loop ((Walks.tuple (by simp [calm]) _ l ne vs).toS) s.heap.objs.size nf xs size few val ?fin (vs.size - 0) 0 _ (by omega) (Nat.zero_le _) ⟨⟨_, Heap.get?_push_size _ rfl, rfl, rfl⟩, (hl'.push _)⟩ ?st (Moved.mk (fun _ _ _ e => e) rfl rfl rfl (Nat.le_refl _))
      case st =>
        exact noSet_ok (Heap.get?_push_of_some _ g0)
      case fin =>
        intro z m T
        obtain ⟨h', gg, dr, tk, os⟩ := z
        obtain rfl : gg = s.gens := m.gens
        obtain rfl : dr = s.drawn := m.drawn
        obtain rfl : os = s.os := m.os
        show wpAny _ _ _ _ _ _
        refine wpAny_pure ?_
        show wpAny _ _ (ret Value.none) _ _ _
        refine wpAny_pure ⟨rfl, h', tk, rfl, T, fun b o e => ?_⟩
        have lb : b < s.heap.objs.size := Heap.lt_size e
        refine m.heap b o ?_ (Heap.get?_push_of_some _ (Heap.get?_push_of_some _ e))
        rw [zz]
        simp only [List.mem_cons, List.not_mem_nil, or_false, not_or]
        exact ⟨Nat.ne_of_lt lb, Nat.ne_of_lt (Nat.lt_succ_of_lt lb)⟩
    · match r, hr with
      | .error e, hr => exact hr
      | .ok (.ret o), hr =>
        obtain ⟨rfl, sm⟩ := hr
        repeat (any_goals (first | assumption | wp_step))
        exact k _ sm
      | .ok .next, hr => exact hr.elim
      | .ok .brk, hr => exact hr.elim
      | .ok .cont, hr => exact hr.elim
  | .ok .next, hr => exact hr.elim
  | .ok .brk, hr => exact hr.elim
  | .ok .cont, hr => exact hr.elim

end
end Tq
namespace Tq
open PySem PySem.Spec PyProof.Rows L2
section
variable {P : Program} {w : World} {A : Around} {E : Value → Shared → Prop} {s : Shared} {a : Addr}
theorem strs_of_ents : ∀ l : List Value, (∀ v ∈ l, ∃ x u, v = Value.str x u) → StrsAre l (l.map fun v => kS (0, v))
  | [], _ => .nil
  | v :: l, h => by
    obtain ⟨x, u, rfl⟩ := h v List.mem_cons_self
    exact .cons x u (strs_of_ents l fun y m => h y (List.mem_cons_of_mem _ m))
/-- what sorted(..) of a set of texts leaves -/
theorem sorted_txt {ks : List Str} {Q : Value → Shared → Prop} (T : TSet w s.heap a ks) (calm : A.handled = none)
    (k : ∀ z p (out : Array Value) (c : Nat) (ys : List Str), (∀ b o, s.heap.get? b = some o → z.heap.get? b = some o) → z.gens = s.gens → z.os = s.os → s.heap.objs.size ≤ p →
      z.heap.get? p = some (seqObj "list" out c) → StrsAre out.toList ys → ys.Perm ks → sortedS ys = true → Q (.ref p) z) :
    wpAny (model P w) A (call (.builtin "sorted") [.ref a]) Q E s := by
  obtain ⟨ob, es, ep, tb, g, t⟩ := T
  have z0 : es.size ≤ sizeLine := Nat.le_trans (Nat.le_of_lt t.bd) (by decide)
  refine Calls.call_function_entry kind_sorted plain_sorted entry_sorted (args_sorted1 _) ?_
  unfold Builtin.«sorted»
  refine wpAny_bind (m := checkCount "sorted" 1 1 _) (wpAny_pure (wpAny_bind (collect_set (A := A.in1) calm ⟨ob, g, t.ex.1, t.da⟩ t.ft t.bd t.rs t.ld fun z1 vs k1 k2 k3 k4 pm => ?_)))
  have vl : vs.length ≤ sizeLine := by
    rw [pm.length_eq, List.length_map, Array.length_toList]
    exact z0
  have sa : StrsAre vs (vs.map fun v => kS (0, v)) := strs_of_ents vs fun v m => by
    obtain ⟨e, he, rfl⟩ := List.mem_map.mp (pm.mem_iff.mp m)
    obtain ⟨x, u, rfl⟩ := t.en e he
    exact ⟨x, u, rfl⟩
  have pk : (vs.map fun v => kS (0, v)).Perm ks := by
    refine (pm.map _).trans ?_
    rw [List.map_map]
    exact t.pm
  refine wpAny_bind (wpAny_newList ?_ vl)
  have gl : (z1.heap.push (seqObj "list" vs.toArray 0)).get? z1.heap.objs.size = some (seqObj "list" vs.toArray 0) := Heap.get?_push_size _ rfl
  refine wpAny_bind (wpAny_holding (wpAny_call_entry slot_list_sort ⟨_, gl, rfl⟩ entry_list_sort
    (list_sort_treeKAny strKind_oneLt gl sa.keysOf (fun v₁ v₂ r e => keyKind_strs (e ▸ sa)) vl fun st hp hs => ⟨_, rfl, ?_⟩) (args_list_sort _)))
  obtain ⟨ys, q1, q2, q3⟩ := sorted_out_str sa hp hs
  obtain ⟨c, hc⟩ := sortedHeap_at (vs := vs) (out := (arrOf st).map (·.2)) gl
  refine wpAny_pure ⟨_, rfl, k _ z1.heap.objs.size _ c ys (fun b o e => ?_) k3 k4 k2 hc q1 (q2.trans pk) q3⟩
  have e1 := k1 b o e
  have lt := Heap.lt_size e1
  show (sortedHeap (z1.heap.push (seqObj "list" vs.toArray 0)) z1.heap.objs.size vs _).get? b = some o
  rw [sortedHeap_old (Nat.ne_of_lt lt) (by rw [size_push']; exact Nat.lt_succ_of_lt lt)]
  exact Heap.get?_push_of_some _ e1
end

/-! ### over the layer -/
/-- the set of texts at a, by the layer -/
def TSO (w : World) (a : Addr) (ks : List Str) : HO := .ext fun h => TSet w h a ks
section
variable {X : Cx}
theorem tso_new {w : World} {P : Program} {H : Hp} {h : Heap} {a : Addr} {ks : List Str} (T : TSet w h a ks) : ObjOk P w H h a (TSO w a ks) := by
  have ⟨ob, _, _, _, g, _⟩ := T
  exact ⟨T, ⟨ob, g⟩, fun _ _ p k => p.keep k⟩
theorem tso_get {pins : List (Addr × Obj)} {σ : L2.St} {H : Hp} {s : Shared} {a : Addr} {ks : List Str} (I : Inv X pins σ H s) (g : H a = some (TSO X.w a ks)) : TSet X.w s.heap a ks := (I.hok a _ g).1
/-- set(t), set(l) -/
def rSetT (K : PySem.W.Frag) (w : World) : List V → Hp → VK → Prop := fun vs H Q => ∃ (a : Addr) (xs : List Str), vs = [.ref a] ∧ SqT K H a (xs.map V.str) ∧ xs.length + 1 < scanBound ∧
  ∀ p, H p = none → Q (.ref p) (upd H p (TSO w p (once xs)))
theorem cr_setT (hc : X.calm = true) : CallR X (.type "set") (rSetT X.K X.w) := by
  intro pins s σ H vs us Q I r h
  obtain ⟨a, xs, rfl, hs, few, q⟩ := h
  rw [Vals.ref1 r]
  obtain ⟨its, rv, hl, _⟩ := I.tuple hs
  refine set_tup (I.ok.hd hc) hl (by simpa using rv.strs) few fun z ⟨h', tk, ez, T, kp⟩ => ?_
  subst ez
  exact ⟨.ref _, upd H s.heap.objs.size (TSO X.w s.heap.objs.size (once xs)), I.laid (t' := tk) kp (Nat.le_refl _) (tso_new T), rfl, q _ (I.hok.fresh (Nat.le_refl _))⟩
/-- sorted(set) -/
def rSortT (w : World) : List V → Hp → VK → Prop := fun vs H Q => ∃ (a : Addr) (ks : List Str), vs = [.ref a] ∧ H a = some (TSO w a ks) ∧
  ∀ (ys : List Str) (p : Addr), ys.Perm ks → sortedS ys = true → H p = none → Q (.ref p) (upd H p (.lst (ys.map V.str)))
theorem cr_sortT (hc : X.calm = true) : CallR X (.builtin "sorted") (rSortT X.w) := by
  intro pins s σ H vs us Q I r h
  obtain ⟨a, ks, rfl, g, q⟩ := h
  rw [Vals.ref1 r]
  have T := tso_get I g
  have kl : ks.length ≤ sizeLine := by
    have ⟨ob, es, ep, tb, g', t⟩ := T
    have e := t.len
    have b := t.bd
    exact Nat.le_trans (Nat.le_of_lt (by omega)) (show scanBound ≤ sizeLine by decide)
  refine sorted_txt T (I.ok.hd hc) fun z p out c ys k1 k2 k3 k4 k5 sa pm so => ?_
  have hn : H p = none := I.hok.fresh k4
  have yl : (ys.map V.str).length ≤ sizeLine := by
    rw [List.length_map, pm.length_eq]
    exact kl
  have J : Inv X pins σ (upd H p (.lst (ys.map V.str))) { s with heap := z.heap, gens := z.gens, drawn := z.drawn, toks := z.toks } := by
    refine I.call (ch := []) (Un.laid k1 k4 hn) (I.hok.laid k1 k4 ⟨yl, out.toList, c, vals_of_strs sa, ?_⟩) ?_ (fun _ m => nomatch m)
    · rw [Array.toArray_toList]
      exact k5
    · rw [k2]
      exact I.bare
  have ez : z = { s with heap := z.heap, gens := z.gens, drawn := z.drawn, toks := z.toks } := by
    cases z; cases s; cases k3
    rfl
  rw [ez]
  exact ⟨.ref p, _, J, rfl, q ys p pm so hn⟩
/-- x in s, x not in s -/
def rInT (w : World) (neg : Bool) : R2 := fun x y H Q => ∃ (z : Str) (a : Addr) (ks : List Str), x = .str z ∧ y = .ref a ∧ H a = some (TSO w a ks) ∧ Q (.bl (if neg then !decide (z ∈ ks) else decide (z ∈ ks))) H
theorem op_inT : OpR X (compareOp .In) (rInT X.w false) := by
  intro pins s σ H x y v u Q I rx ry h
  obtain ⟨z, a, ks, rfl, rfl, g, q⟩ := h
  obtain ⟨t, rfl⟩ := rx
  cases ry
  exact wpAny_inSet_of (knd := strKind X.prog X.w) (k := z) (strKind_is _ _ _ _) rfl (tso_get I g).setOf ⟨.bl _, H, I.tok _, rfl, q⟩
theorem op_notInT : OpR X (compareOp .NotIn) (rInT X.w true) := by
  intro pins s σ H x y v u Q I rx ry h
  obtain ⟨z, a, ks, rfl, rfl, g, q⟩ := h
  obtain ⟨t, rfl⟩ := rx
  cases ry
  exact wpAny_notInSet_of (knd := strKind X.prog X.w) (k := z) (strKind_is _ _ _ _) rfl (tso_get I g).setOf ⟨.bl _, H, I.tok _, rfl, q⟩
end
end Tq
namespace Tq
open PySem PySem.Spec PyProof.Rows L2
/-! ### text * int -/
section
variable {X : Cx}
theorem mulOk {z : Str} {n : Int} (h1 : z.length ≤ 1000) (h2 : -1000 ≤ n) (h3 : n ≤ 1000) : MulOk z n := by
  refine ⟨?_, ?_, ?_⟩
  · have a : ¬ n < -(2 ^ 63 : Int) := by omega
    have b : ¬ n ≥ 2 ^ 63 := by omega
    rw [decide_eq_false a, decide_eq_false b]; rfl
  · intro a _ c
    have e : (9223372036854 : Int) ≤ (2 ^ 63 - 1) / n := by
      refine (Int.le_ediv_iff_mul_le (by omega)).mpr ?_
      omega
    omega
  · intro a _
    have e : z.length * n.toNat ≤ 1000 * 1000 := Nat.mul_le_mul h1 (by omega)
    unfold Builtin.Str.tooLong
    have l : sizeLine ≥ 1000 * 1000 := by decide
    simp only [decide_eq_false_iff_not]
    omega
def rMulS : R2 := fun x y H Q => ∃ z n, x = .str z ∧ y = .int n ∧ (z.length ≤ 1000 ∧ -1000 ≤ n ∧ n ≤ 1000) ∧ Q (.str (Txt.mul z n)) H
theorem op_mulS : OpR X (binaryOp .Mult) rMulS := by
  intro pins s σ H x y v u Q I rx ry h
  obtain ⟨z, n, rfl, rfl, ⟨h1, h2, h3⟩, q⟩ := h
  obtain ⟨t, rfl⟩ := rx
  obtain ⟨t', rfl⟩ := ry
  exact SB.mul (mulOk h1 h2 h3) fun t' k => ⟨.str _, H, I.tok _, ⟨_, rfl⟩, q⟩
end
/-! ### a def of the text -/
structure Df (K : PySem.W.Frag) (mg : Str → Option Value) (x : Str) (st : Stmt) (ps : List Str) where
  f : Addr
  fd : FuncData
  F : Fun K x x st f fd
  g : mg x = some (.ref f)
  b : Binds K fd ps []
/-- all but t stands as it stood -/
def But (t : Addr) (H H' : Hp) : Prop := ∀ b o, b ≠ t → H b = some o → H' b = some o
theorem But.trans {t : Addr} {H H1 H2 : Hp} (a : But t H H1) (b : But t H1 H2) : But t H H2 := fun c o n h => b c o n (a c o n h)
theorem But.refl (t : Addr) (H : Hp) : But t H H := fun _ _ _ h => h
theorem Same.but {t : Addr} {H H' : Hp} (a : Same H H') : But t H H' := fun c o _ h => a c o h
theorem But.upd {t : Addr} {H H' : Hp} {o : HO} (a : But t H H') : But t H (L2.upd H' t o) := fun c u n h => by
  rw [upd_ne n]
  exact a c u n h
theorem But.new {t p : Addr} {H H' : Hp} {o : HO} (a : But t H H') (n : H p = none) : But t H (L2.upd H' p o) := fun c u m h => by
  rw [upd_ne (ne_of_none h n)]
  exact a c u m h
theorem But.seq {K : PySem.W.Frag} {t : Addr} {H H' : Hp} {a : Addr} {xs : List V} (e : But t H H') (n : a ≠ t) (h : SqL K H a xs) : SqL K H' a xs := by
  rcases h with (h | ⟨o, h⟩) | h
  · exact .inl (.inl (e _ _ n h))
  · exact .inl (.inr ⟨o, e _ _ n h⟩)
  · exact .inr h
/-- the tape stands at t, its cells at a -/
def Tape (H : Hp) (t a : Addr) : Prop := ∃ (ns : List Int) (p c d : Int), a ≠ t ∧ 0 ≤ p ∧ 0 ≤ c ∧ 0 ≤ d ∧ H a = some (.lst (ns.map V.int)) ∧ H t = some (.lst [.ref a, .int p, .int c, .int d])
end Tq
namespace Tq
open PySem PySem.Spec PyProof.Rows L2
/-! ### the operators by names, and one step back from what follows -/
section
variable {X : Cx} {K : PySem.W.Frag} {H : Hp} {Q : VK} {i j : Int} {σ : L2.St} {a p : Addr} {x y v : V} {xs ys : List V}
def rAddI : R2 := rI0 fun i j => .int (i + j)
def rSubI : R2 := rI0 fun i j => .int (i - j)
def rMulI : R2 := rI CMul fun i j => .int (i * j)
def rModI : R2 := rI (fun _ j => j ≠ 0) fun i j => .int (i.fmod j)
def CDiv64 (_ j : Int) : Prop := 0 < j ∧ j < 18446744073709551616
def rDivI : R2 := rI CDiv64 fun i j => .int (i.fdiv j)
def rPowI : R2 := rI CPow fun i j => .int (i ^ j.toNat)
theorem o_add : OpR X (binaryOp .Add) rAddI := op_add
theorem o_sub : OpR X (binaryOp .Sub) rSubI := op_sub
theorem o_mul : OpR X (binaryOp .Mult) rMulI := op_mul
theorem o_mod : OpR X (binaryOp .Mod) rModI := op_modN
theorem o_div : OpR X (binaryOp .FloorDiv) rDivI := by
  intro pins s σ H x y v u Q I rx ry h
  obtain ⟨i, j, rfl, rfl, ⟨j0, j1⟩, q⟩ := h
  have q : Q (.int (i.fdiv j)) H := q
  rw [Int.fdiv_eq_ediv_of_nonneg i (Int.le_of_lt j0)] at q
  exact op_fdivW pins s σ H _ _ v u Q I rx ry ⟨i, j, rfl, rfl, wide_div (b := 64) (i := i) j0 (by omega) (by decide) (by decide), q⟩
theorem o_pow : OpR X (binaryOp .Pow) rPowI := op_pow
theorem l_add (q : Q (.int (i + j)) H) : rAddI (.int i) (.int j) H Q := ⟨i, j, rfl, rfl, q⟩
theorem l_sub (q : Q (.int (i - j)) H) : rSubI (.int i) (.int j) H Q := ⟨i, j, rfl, rfl, q⟩
theorem l_mul (c : CMul i j) (q : Q (.int (i * j)) H) : rMulI (.int i) (.int j) H Q := ⟨i, j, rfl, rfl, c, q⟩
theorem l_mod (c : j ≠ 0) (q : Q (.int (i.fmod j)) H) : rModI (.int i) (.int j) H Q := ⟨i, j, rfl, rfl, c, q⟩
theorem l_div (c : CDiv64 i j) (q : Q (.int (i.fdiv j)) H) : rDivI (.int i) (.int j) H Q := ⟨i, j, rfl, rfl, c, q⟩
theorem l_pow (c : CPow i j) (q : Q (.int (i ^ j.toNat)) H) : rPowI (.int i) (.int j) H Q := ⟨i, j, rfl, rfl, c, q⟩
def rLtI : R2 := rI0 fun i j => .bl (decide (i < j))
def rLeI : R2 := rI0 fun i j => .bl (decide (i ≤ j))
def rGtI : R2 := rI0 fun i j => .bl (decide (j < i))
def rGeI : R2 := rI0 fun i j => .bl (decide (j ≤ i))
theorem o_lt : OpR X (compareOp .Lt) rLtI := op_lt
theorem o_le : OpR X (compareOp .LtE) rLeI := op_le
theorem o_gt : OpR X (compareOp .Gt) rGtI := op_gt
theorem o_ge : OpR X (compareOp .GtE) rGeI := op_ge
theorem l_lt (q : Q (.bl (decide (i < j))) H) : rLtI (.int i) (.int j) H Q := ⟨i, j, rfl, rfl, q⟩
theorem l_le (q : Q (.bl (decide (i ≤ j))) H) : rLeI (.int i) (.int j) H Q := ⟨i, j, rfl, rfl, q⟩
theorem l_gt (q : Q (.bl (decide (j < i))) H) : rGtI (.int i) (.int j) H Q := ⟨i, j, rfl, rfl, q⟩
theorem l_ge (q : Q (.bl (decide (j ≤ i))) H) : rGeI (.int i) (.int j) H Q := ⟨i, j, rfl, rfl, q⟩
theorem l_eqI (q : Q (.bl (decide (i = j))) H) : rEq (.int i) (.int j) H Q := ⟨rfl, by rw [show decide (V.int i = V.int j) = decide (i = j) by simp]; exact q⟩
theorem l_neI (q : Q (.bl (!decide (i = j))) H) : rNe (.int i) (.int j) H Q := ⟨rfl, by rw [show decide (V.int i = V.int j) = decide (i = j) by simp]; exact q⟩
theorem l_eqS {z u : Str} (q : Q (.bl (decide (z = u))) H) : rEq (.str z) (.str u) H Q := ⟨rfl, by rw [show decide (V.str z = V.str u) = decide (z = u) by simp]; exact q⟩
theorem l_neS {z u : Str} (q : Q (.bl (!decide (z = u))) H) : rNe (.str z) (.str u) H Q := ⟨rfl, by rw [show decide (V.str z = V.str u) = decide (z = u) by simp]; exact q⟩
/-- texts -/
def rAddS' : R2 := fun x y H Q => ∃ i j, x = .str i ∧ y = .str j ∧ i.length + j.length ≤ sizeLine ∧ Q (.str (i ++ j)) H
def rLtS : R2 := fun x y H Q => ∃ i j, x = .str i ∧ y = .str j ∧ Q (.bl (decide (i.cps.toList < j.cps.toList))) H
def rLeS : R2 := fun x y H Q => ∃ i j, x = .str i ∧ y = .str j ∧ Q (.bl (!decide (j.cps.toList < i.cps.toList))) H
theorem o_addS : OpR X (binaryOp .Add) rAddS' := op_add_str
theorem o_ltS : OpR X (compareOp .Lt) rLtS := op_lt_str
theorem o_leS : OpR X (compareOp .LtE) rLeS := op_le_str
theorem l_addS {z u : Str} (c : z.length + u.length ≤ sizeLine) (q : Q (.str (z ++ u)) H) : rAddS' (.str z) (.str u) H Q := ⟨z, u, rfl, rfl, c, q⟩
theorem l_ltS {z u : Str} (q : Q (.bl (decide (z.cps.toList < u.cps.toList))) H) : rLtS (.str z) (.str u) H Q := ⟨z, u, rfl, rfl, q⟩
theorem l_leS {z u : Str} (q : Q (.bl (!decide (u.cps.toList < z.cps.toList))) H) : rLeS (.str z) (.str u) H Q := ⟨z, u, rfl, rfl, q⟩
theorem l_mulS {z : Str} {n : Int} (c : z.length ≤ 1000 ∧ -1000 ≤ n ∧ n ≤ 1000) (q : Q (.str (Txt.mul z n)) H) : rMulS (.str z) (.int n) H Q := ⟨z, n, rfl, rfl, c, q⟩
/-- calls -/
def rInt1 : List V → Hp → VK → Prop := fun xs H Q => ∃ i, xs = [.int i] ∧ Q (.int i) H
def rAbs1 : List V → Hp → VK → Prop := fun xs H Q => ∃ i, xs = [.int i] ∧ Q (.int (if i < 0 then -i else i)) H
def rMaxI : List V → Hp → VK → Prop := fun xs H Q => ∃ i j, xs = [.int i, .int j] ∧ Q (.int (if j > i then j else i)) H
def rMinI : List V → Hp → VK → Prop := fun xs H Q => ∃ i j, xs = [.int i, .int j] ∧ Q (.int (if j < i then j else i)) H
def rStrI : List V → Hp → VK → Prop := fun xs H Q => ∃ i, xs = [.int i] ∧ i.natAbs.log2 < 1920 ∧ Q (.str (toString i)) H
def rLenQ (K : PySem.W.Frag) : List V → Hp → VK → Prop := fun xs H Q => ∃ p ys, xs = [.ref p] ∧ (SqL K H p ys ∨ SqT K H p ys) ∧ Q (.int ys.length) H
def rLenT : List V → Hp → VK → Prop := fun xs H Q => ∃ z, xs = [.str z] ∧ z.length ≤ sizeLine ∧ Q (.int z.length) H
def rListQ (K : PySem.W.Frag) : List V → Hp → VK → Prop := fun xs H Q => ∃ p ys, xs = [.ref p] ∧ (SqL K H p ys ∨ SqT K H p ys) ∧ ∀ l, H l = none → Q (.ref l) (upd H l (.lst ys))
def rTupQ (K : PySem.W.Frag) : List V → Hp → VK → Prop := fun xs H Q => ∃ p ys, xs = [.ref p] ∧ ((SqL K H p ys ∧ ∀ l, H l = none → Q (.ref l) (upd H l (.tup ys))) ∨ (SqT K H p ys ∧ Q (.ref p) H))
theorem c_int : CallR X (.type "int") rInt1 := fun pins s σ H xs us Q I r h => call_int1 pins s σ H xs us Q I r (.inl h)
theorem c_abs : CallR X (.builtin "abs") rAbs1 := call_abs
theorem c_max (hc : X.calm = true) : CallR X (.builtin "max") rMaxI := call_max2 hc
theorem c_min (hc : X.calm = true) : CallR X (.builtin "min") rMinI := call_min2 hc
theorem c_str : CallR X (.type "str") rStrI := call_str_int
theorem c_len : CallR X (.builtin "len") (rLenQ X.K) := call_len_seq
theorem c_lenS : CallR X (.builtin "len") rLenT := call_len_str
theorem c_list : CallR X (.type "list") (rListQ X.K) := call_list_of
theorem c_tuple : CallR X (.type "tuple") (rTupQ X.K) := call_tuple_of
theorem l_int (q : Q (.int i) H) : rInt1 [.int i] H Q := ⟨i, rfl, q⟩
theorem l_abs (q : Q (.int (if i < 0 then -i else i)) H) : rAbs1 [.int i] H Q := ⟨i, rfl, q⟩
theorem l_max (q : Q (.int (if j > i then j else i)) H) : rMaxI [.int i, .int j] H Q := ⟨i, j, rfl, q⟩
theorem l_min (q : Q (.int (if j < i then j else i)) H) : rMinI [.int i, .int j] H Q := ⟨i, j, rfl, q⟩
theorem l_str (c : i.natAbs.log2 < 1920) (q : Q (.str (toString i)) H) : rStrI [.int i] H Q := ⟨i, rfl, c, q⟩
theorem l_lenL (h : SqL K H p ys) (q : Q (.int ys.length) H) : rLenQ K [.ref p] H Q := ⟨p, ys, rfl, .inl h, q⟩
theorem l_lenT (h : SqT K H p ys) (q : Q (.int ys.length) H) : rLenQ K [.ref p] H Q := ⟨p, ys, rfl, .inr h, q⟩
theorem l_lenS {z : Str} (h : z.length ≤ sizeLine) (q : Q (.int z.length) H) : rLenT [.str z] H Q := ⟨z, rfl, h, q⟩
theorem l_listL (h : SqL K H p ys) (q : ∀ l, H l = none → Q (.ref l) (upd H l (.lst ys))) : rListQ K [.ref p] H Q := ⟨p, ys, rfl, .inl h, q⟩
theorem l_tupL (h : SqL K H p ys) (q : ∀ l, H l = none → Q (.ref l) (upd H l (.tup ys))) : rTupQ K [.ref p] H Q := ⟨p, ys, rfl, .inl ⟨h, q⟩⟩
/-- items, stores -/
theorem l_ixL (h : SqL K H p xs) (e : atI xs i = some v) (q : Q v H) : rIxL K (.ref p) (.int i) H Q := ⟨p, xs, i, v, rfl, rfl, h, e, q⟩
theorem l_ixT (h : SqT K H p xs) (e : atI xs i = some v) (q : Q v H) : rIxT K (.ref p) (.int i) H Q := ⟨p, xs, i, v, rfl, rfl, h, e, q⟩
theorem l_ixS {z : Str} {c : Nat} (h : z.length ≤ sizeLine) (e : atI z.cps.toList i = some c) (q : Q (.str ⟨#[c]⟩) H) : rIxS (.str z) (.int i) H Q := ⟨z, i, c, rfl, rfl, h, e, q⟩
theorem l_setL {n : Nat} {R : Hp → Prop} (h : H p = some (.lst xs)) (e : ixN xs.length i = some n) (q : R (upd H p (.lst (xs.set n v)))) : rSetL (.ref p) (.int i) v H R := ⟨p, xs, i, n, rfl, rfl, h, e, q⟩
theorem l_app (h : H p = some (.lst xs)) (n : xs.length < sizeLine) (q : Q .non (upd H p (.lst (xs ++ [v])))) : rAppend (.ref p) [v] H Q := ⟨p, xs, v, rfl, rfl, h, n, q⟩
/-! ### the syntax's own steps -/
variable {ta tb te : TE} {t u : TT} {D : Ends} {A B : TS} {tr : TA} {g : TG} {sp : Sp} {E : XK} {r : R2} {rc : List V → Hp → VK → Prop} {n : Nat}
theorem l_var (h : σ[n]? = some (some v)) (q : Q v H) : tVar n σ H Q := ⟨v, h, q⟩
theorem l_c (q : Q v H) : tC v σ H Q := q
theorem l_op (q : ta σ H fun x H1 => tb σ H1 fun y H2 => r x y H2 Q) : tOp r ta tb σ H Q := q
theorem l_cb (q : tr σ H fun vs H1 => rc vs H1 Q) : tCB rc tr σ H Q := q
theorem l_nil {Q : List V → Hp → Prop} (q : Q [] H) : tNil σ H Q := q
theorem l_cons {Q : List V → Hp → Prop} (q : ta σ H fun x H1 => tr σ H1 fun xs H2 => Q (x :: xs) H2) : tCons ta tr σ H Q := q
theorem l_call (q : tr σ H fun vs H1 => sp vs H1 Q E) : tCall sp [] E tr σ H Q := by
  show tr σ H fun vs H1 => sp (vs ++ []) H1 Q E
  simp only [List.append_nil]
  exact q
theorem l_lst (q : tr σ H fun xs H1 => xs.length ≤ sizeLine ∧ ∀ p, H1 p = none → Q (.ref p) (upd H1 p (.lst xs))) : tLst tr σ H Q := q
theorem l_tup (q : tr σ H fun xs H1 => xs.length ≤ sizeLine ∧ ∀ p, H1 p = none → Q (.ref p) (upd H1 p (.tup xs))) : tTup tr σ H Q := q
theorem l_bm {T : String} {rm : V → List V → Hp → VK → Prop} {to : TE} (q : to σ H fun x H1 => tyV K T x H1 ∧ tr σ H1 fun xs H2 => rm x xs H2 Q) : tBM K T rm to tr σ H Q := q
theorem l_tyL (h : SqL K H p xs) : tyV K "list" (.ref p) H := .inl ⟨rfl, xs, h⟩
theorem l_seq (q : A { D with nx := B D } σ H) : tSeq A B D σ H := q
theorem l_next (q : D.nx σ H) : tNext D σ H := q
theorem l_asg (q : te σ H fun x H1 => g x σ H1 D.nx) : tAsg te g D σ H := q
theorem l_gname {R : L2.St → Hp → Prop} (q : R (σ.set n (some v)) H) : gName n v σ H R := q
theorem l_gsub {R : L2.St → Hp → Prop} {ts : L2.TSet} (q : ta σ H fun o H1 => tb σ H1 fun i H2 => ts o i v H2 fun H3 => R σ H3) : gSub ta tb ts v σ H R := q
theorem l_ret (q : te σ H D.rt) : tRet te D σ H := q
theorem l_drop (q : te σ H fun _ H1 => D.nx σ H1) : tDrop te D σ H := q
theorem l_ifs (q : t σ H fun b H1 => if b = true then A D σ H1 else B D σ H1) : tIfS t A B D σ H := q
theorem l_test {R : Bool → Hp → Prop} (q : te σ H fun x H1 => ∃ k, x = .bl k ∧ R k H1) : tTest te σ H R := q
theorem l_b {R : Bool → Hp → Prop} (q : te σ H fun x H1 => ∃ k, x = .bl k ∧ R k H1) : tB te σ H R := q
theorem l_bl {k : Bool} {R : Bool → Prop} (q : R k) : ∃ c, V.bl k = .bl c ∧ R c := ⟨k, rfl, q⟩
theorem l_not {R : Bool → Hp → Prop} (q : t σ H fun c H1 => R (!c) H1) : tNot t σ H R := q
theorem l_or {R : Bool → Hp → Prop} (q : t σ H fun c H1 => if c = true then R true H1 else u σ H1 R) : tOr t u σ H R := q
theorem l_and {R : Bool → Hp → Prop} (q : t σ H fun c H1 => if c = true then u σ H1 R else R false H1) : tAnd t u σ H R := q
theorem l_aug {ti : TIp} (h : σ[n]? = some (some x)) (q : te σ H fun y H1 => ti x y H1 fun z H2 => D.nx (σ.set n (some z)) H2) : tAug n te ti D σ H := ⟨x, h, q⟩
theorem l_ipI {f : Int → Int → Int} (q : Q (.int (f i j)) H) : ipI f (.int i) (.int j) H Q := ⟨i, j, rfl, rfl, q⟩
theorem l_if {c A B : Prop} [Decidable c] (h1 : c → A) (h2 : ¬ c → B) : if decide c = true then A else B := by
  by_cases h : c
  · rw [if_pos (decide_eq_true h)]; exact h1 h
  · rw [if_neg (by rw [decide_eq_false h]; decide)]; exact h2 h
theorem l_ifN {c A B : Prop} [Decidable c] (h1 : ¬ c → A) (h2 : c → B) : if (!decide c) = true then A else B := by
  by_cases h : c
  · rw [if_neg (by rw [decide_eq_true h]; decide)]; exact h2 h
  · rw [if_pos (by rw [decide_eq_false h]; decide)]; exact h1 h
theorem l_ifT {A B : Prop} (h : A) : if true = true then A else B := by rw [if_pos rfl]; exact h
theorem l_ifF {A B : Prop} (h : B) : if false = true then A else B := by rw [if_neg Bool.false_ne_true]; exact h
theorem l_if2 {b : Bool} {A B : Prop} (h1 : b = true → A) (h2 : b = false → B) : if b = true then A else B := by
  cases b
  · exact l_ifF (h2 rfl)
  · exact l_ifT (h1 rfl)
theorem sqL (h : H p = some (.lst xs)) : SqL K H p xs := .inl (.inl h)
theorem sqT (h : H p = some (.tup xs)) : SqT K H p xs := .inl (.inl h)
end
end Tq
namespace Tq
open PySem PySem.Spec PyProof.Rows L2
theorem atI_some {α : Type} {xs : List α} {i : Int} (h0 : 0 ≤ i) (h1 : i < xs.length) : ∃ x, atI xs i = some x ∧ xs[i.toNat]? = some x := by
  have l : i.toNat < xs.length := by omega
  refine ⟨xs[i.toNat], ?_, List.getElem?_eq_getElem l⟩
  unfold atI ixN
  rw [if_pos h0, if_pos h1]
  exact List.getElem?_eq_getElem l
theorem atI_map {α β : Type} {f : α → β} {xs : List α} {i : Int} (h0 : 0 ≤ i) (h1 : i < xs.length) : ∃ x, atI (xs.map f) i = some (f x) ∧ xs[i.toNat]? = some x := by
  obtain ⟨y, e1, e2⟩ := atI_some (xs := xs.map f) h0 (by rw [List.length_map]; exact h1)
  rw [List.getElem?_map] at e2
  cases e : xs[i.toNat]? with
  | none => rw [e] at e2; cases e2
  | some x =>
    rw [e] at e2
    cases e2
    exact ⟨x, e1, rfl⟩
theorem fmod_lt {i j : Int} (h : 0 ≤ i) (hj : 0 < j) : 0 ≤ i.fmod j ∧ i.fmod j < j := by
  rw [Int.fmod_eq_emod_of_nonneg i (Int.le_of_lt hj)]
  exact ⟨Int.emod_nonneg i (by omega), Int.emod_lt_of_pos i hj⟩
theorem fdiv_nn {i j : Int} (h : 0 ≤ i) (hj : 0 < j) : 0 ≤ i.fdiv j := by
  rw [Int.fdiv_eq_ediv_of_nonneg i (Int.le_of_lt hj)]
  exact Int.ediv_nonneg h (by omega)
theorem abs_nn (i : Int) : 0 ≤ (if i < 0 then -i else i) := by split <;> omega
theorem max_eq (i j : Int) : (if j > i then j else i) = max i j := by
  rw [Int.max_def]; split <;> split <;> omega
end Tq
namespace Tq
open PySem PySem.Spec PyProof.Rows L2
/-! ### texts in ascending order -/
abbrev tl (x y : Str) : Prop := x.cps.toList < y.cps.toList
theorem tl_irrefl (x : Str) : ¬ tl x x := List.lt_irrefl _
theorem tl_trans {x y z : Str} (a : tl x y) (b : tl y z) : tl x z := List.lt_trans a b
theorem tl_tri (x y : Str) : tl x y ∨ x = y ∨ tl y x := by
  by_cases a : tl x y
  · exact .inl a
  · by_cases b : tl y x
    · exact .inr (.inr b)
    · refine .inr (.inl ?_)
      have e : x.cps.toList = y.cps.toList := List.le_antisymm (List.not_lt.mp b) (List.not_lt.mp a)
      cases x; cases y
      simpa using Array.toList_inj.mp e
theorem sortedS_pw : ∀ {ys : List Str}, sortedS ys = true → ys.Pairwise (fun a b => ¬ tl b a)
  | [], _ => .nil
  | [x], _ => by simp
  | x :: y :: r, h => by
    have h1 : (!ltCps y.cps.toList x.cps.toList && risingS y r) = true := h
    rw [Bool.and_eq_true, Bool.not_eq_true', ltCps_eq, decide_eq_false_iff_not] at h1
    have ih := sortedS_pw (ys := y :: r) h1.2
    refine List.pairwise_cons.mpr ⟨fun z m => ?_, ih⟩
    rcases List.mem_cons.mp m with e | e
    · rw [e]; exact h1.1
    · have h2 := (List.pairwise_cons.mp ih).1 z e
      intro c
      rcases tl_tri x y with d | d | d
      · exact h2 (tl_trans c d)
      · exact h2 (d ▸ c)
      · exact h1.1 d
/-- strictly ascending -/
abbrev Up (ys : List Str) : Prop := ys.Pairwise tl
theorem up_of {ys : List Str} (h : sortedS ys = true) (n : ys.Nodup) : Up ys := by
  have a := sortedS_pw h
  refine (a.and n).imp fun {x y} h => ?_
  rcases tl_tri x y with d | d | d
  · exact d
  · exact absurd d h.2
  · exact absurd d h.1
theorem up_nd {ys : List Str} (h : Up ys) : ys.Nodup := List.Pairwise.imp (S := fun x y => x ≠ y) (fun {x y} (d : tl x y) (e : x = y) => tl_irrefl y (e ▸ d)) h
/-- two ascending lists with the same members are one -/
theorem up_one : ∀ {xs ys : List Str}, Up xs → Up ys → (∀ z, z ∈ xs ↔ z ∈ ys) → xs = ys
  | [], [], _, _, _ => rfl
  | [], y :: r, _, _, h => absurd ((h y).mpr List.mem_cons_self) (by simp)
  | x :: r, [], _, _, h => absurd ((h x).mp List.mem_cons_self) (by simp)
  | x :: r, y :: t, hx, hy, h => by
    have hx' := List.pairwise_cons.mp hx
    have hy' := List.pairwise_cons.mp hy
    have e : x = y := by
      rcases List.mem_cons.mp ((h x).mp List.mem_cons_self) with e | e
      · exact e
      · rcases List.mem_cons.mp ((h y).mpr List.mem_cons_self) with e2 | e2
        · exact e2.symm
        · exact absurd (tl_trans (hx'.1 y e2) (hy'.1 x e)) (tl_irrefl x)
    subst e
    rw [up_one (xs := r) (ys := t) hx'.2 hy'.2 fun z => ?_]
    constructor
    · intro m
      rcases List.mem_cons.mp ((h z).mp (List.mem_cons_of_mem _ m)) with e | e
      · exact absurd (hx'.1 z m) (by rw [e]; exact tl_irrefl x)
      · exact e
    · intro m
      rcases List.mem_cons.mp ((h z).mpr (List.mem_cons_of_mem _ m)) with e | e
      · exact absurd (hy'.1 z m) (by rw [e]; exact tl_irrefl x)
      · exact e
/-- ys is xs in ascending order, each once -/
structure IsAsc (ys xs : List Str) : Prop where
  up : Up ys
  mem : ∀ z, z ∈ ys ↔ z ∈ xs
theorem isAsc_of {ys xs : List Str} (p : ys.Perm (once xs)) (s : sortedS ys = true) : IsAsc ys xs :=
  ⟨up_of s (p.nodup_iff.mpr (once_nd xs)), fun z => (p.mem_iff).trans (once_mem xs z)⟩
theorem IsAsc.self {ys : List Str} (h : Up ys) : IsAsc ys ys := ⟨h, fun _ => Iff.rfl⟩
theorem IsAsc.one {ys zs xs : List Str} (a : IsAsc ys xs) (b : IsAsc zs xs) : ys = zs := up_one a.up b.up fun z => (a.mem z).trans (b.mem z).symm
theorem IsAsc.len {ys xs : List Str} (a : IsAsc ys xs) : ys.length ≤ xs.length := by
  have e : ys.Perm (once xs) := (List.perm_ext_iff_of_nodup (up_nd a.up) (once_nd xs)).mpr fun z => (a.mem z).trans (once_mem xs z).symm
  rw [e.length_eq]
  exact once_len xs
/-! ### what a text is [20] -/
structure IsText (z : Str) : Prop where
  len : z.length ≤ 12
  ok : ∀ c ∈ z.cps.toList, 32 ≤ c ∧ c ≤ 126 ∧ c ≠ 34 ∧ c ≠ 37
/-! ### the tape -/
section
variable {K : PySem.W.Frag} {H H' : Hp} {t a p : Addr} {o u : HO}
theorem Tape.same (h : Tape H t a) (e : Same H H') : Tape H' t a := by
  obtain ⟨ns, p, c, d, n, h1, h2, h3, h4, h5⟩ := h
  exact ⟨ns, p, c, d, n, h1, h2, h3, e _ _ h4, e _ _ h5⟩
theorem Tape.ne (h : Tape H t a) (n : H p = none) : p ≠ t ∧ p ≠ a := by
  obtain ⟨ns, q, c, d, n', h1, h2, h3, h4, h5⟩ := h
  exact ⟨(ne_of_none h5 n).symm, (ne_of_none h4 n).symm⟩
theorem Tape.put (h : Tape H t a) (n1 : p ≠ t) (n2 : p ≠ a) : Tape (L2.upd H p u) t a := by
  obtain ⟨ns, q, c, d, n', h1, h2, h3, h4, h5⟩ := h
  exact ⟨ns, q, c, d, n', h1, h2, h3, by rw [upd_ne n2.symm]; exact h4, by rw [upd_ne n1.symm]; exact h5⟩
theorem new_same (h : H p = none) : Same H (L2.upd H p o) := fun b x e => by
  rw [upd_ne (ne_of_none e h)]
  exact e
end
end Tq
namespace Tq
open PySem PySem.Spec PyProof.Rows L2
theorem mul1_list (c : Nat) (n : Int) : (Txt.mul ⟨#[c]⟩ n).cps.toList = List.replicate n.toNat c := mul_one_list c n
theorem mul1_len (c : Nat) (n : Int) : (Txt.mul ⟨#[c]⟩ n).length = n.toNat := by
  have e := congrArg List.length (mul1_list c n)
  rw [List.length_replicate, Array.length_toList] at e
  exact e
theorem app_len (x y : Str) : (x ++ y).length = x.length + y.length := Array.size_append
theorem app_list (x y : Str) : (x ++ y).cps.toList = x.cps.toList ++ y.cps.toList := Array.toList_append
theorem one_len (c : Nat) : (⟨#[c]⟩ : Str).length = 1 := rfl
theorem fits {n : Nat} (h : n ≤ 1000000) : n ≤ sizeLine := Nat.le_trans h (by decide)
theorem fits_lt {n : Nat} (h : n < 1000000) : n < sizeLine := Nat.lt_of_lt_of_le h (by decide)
end Tq
namespace Tq
open PySem PySem.Spec PyProof.Rows L2
section
variable {X : Cx} {K : PySem.W.Frag} {H : Hp} {Q : VK} {i j : Int} {σ : L2.St} {a p : Addr} {x y v : V} {xs ys : List V} {ta tb te : TE} {t u : TT} {D : Ends} {A B : TS} {tr : TA} {g : TG}
theorem l_lc {wi : TI} {vs : List Nat} (q : wi σ H fun J H1 => ∀ D, H1 D = none → ∃ W : Nat → Nat → Hp → Prop, (∃ m, W 0 m (upd H1 D (.lst []))) ∧ ∀ i m H, W i m H →
  (J.stop i H ∧ Q (.ref D) H) ∨ (J.go i H ∧ ∃ Nx : Hp → Prop, (∀ H', Nx H' → ∃ m', m' < m ∧ W (i + 1) m' H') ∧ ∀ x H', J.yld i H x H' → g x (wipe σ vs) H' fun σ2 H2 => wipe σ2 vs = wipe σ vs ∧ t σ2 H2 fun b H3 =>
    if b = true then te σ2 H3 fun y H4 => ∃ acc, H4 D = some (.lst acc) ∧ acc.length < sizeLine ∧ Nx (upd H4 D (.lst (acc ++ [y]))) else Nx H3)) : tLc wi g t te vs σ H Q := q
theorem l_for {wi : TI} (q : wi σ H fun J H1 => ∃ W : Nat → Nat → L2.St → Hp → Prop, (∃ m, W 0 m σ H1) ∧ ∀ i m σ H, W i m σ H →
  (J.stop i H ∧ D.nx σ H) ∨ (J.go i H ∧ ∃ N : L2.St → Hp → Prop, (∀ σ' H', N σ' H' → ∃ m', m' < m ∧ W (i + 1) m' σ' H') ∧ ∀ x H', J.yld i H x H' → g x σ H' fun σ2 H2 => A { D with nx := N, ct := N, bk := D.nx } σ2 H2)) : tFor wi g A D σ H := q
theorem l_rng1 {R : It → Hp → Prop} (q : tr σ H fun vs H1 => ∃ j : Int, vs = [.int j] ∧ -(2 ^ 62) ≤ j ∧ j < 2 ^ 62 ∧ R (Itr 0 j.toNat) H1) : iRng1 tr σ H R := q
theorem l_ilist {R : It → Hp → Prop} (q : ta σ H fun x H1 => ∃ a, x = .ref a ∧ (∃ xs, SqL K H1 a xs) ∧ R (Itl K a) H1) : iList K ta σ H R := q
theorem l_itup {R : It → Hp → Prop} (q : ta σ H fun x H1 => ∃ a, x = .ref a ∧ (∃ xs, SqT K H1 a xs) ∧ R (Itt K a) H1) : iTup K ta σ H R := q
theorem l_yes {R : Bool → Hp → Prop} (q : R true H) : tYes σ H R := q
theorem l_in {z : Str} {zs : List Str} {neg : Bool} (h : SqL K H p (zs.map V.str) ∨ SqT K H p (zs.map V.str)) (q : Q (.bl (if neg then !decide (z ∈ zs) else decide (z ∈ zs))) H) : rIn K neg (.str z) (.ref p) H Q := by
  have e : inV (.str z) (zs.map V.str) = decide (z ∈ zs) := by
    unfold inV
    rw [List.any_map]
    by_cases m : z ∈ zs
    · rw [decide_eq_true m]
      exact List.any_eq_true.mpr ⟨z, m, by simp [eqV]⟩
    · rw [decide_eq_false m]
      refine List.any_eq_false.mpr fun y hy c => m ?_
      have : y = z := by simpa [eqV] using c
      exact this ▸ hy
  refine ⟨p, _, rfl, h, rfl, ?_, ?_⟩
  · rw [List.all_map]; exact List.all_eq_true.mpr fun _ _ => rfl
  · rw [e]; exact q
theorem strOk_text {z : Str} (h : IsText z) : PyData.strOk z = true := by
  unfold PyData.strOk
  rw [← Array.all_toList, List.all_eq_true]
  intro c m
  have := h.ok c m
  exact decide_eq_true (by omega)
/-- == of two tuples of texts -/
theorem l_eqT {q1 q2 : Addr} {zs us : List Str} (h1 : SqT K H q1 (zs.map V.str)) (h2 : SqT K H q2 (us.map V.str)) (o1 : ∀ z ∈ zs, PyData.strOk z = true) (o2 : ∀ z ∈ us, PyData.strOk z = true) (q : Q (.bl (decide (zs = us))) H) : rEqD K (.ref q1) (.ref q2) H Q := by
  have da : ∀ l : List Str, DpAll K H (l.map V.str) (l.map PyData.str) := fun l => by
    induction l with
    | nil => exact .nil
    | cons x r ih => exact .cons (.str x) ih
  have cl : ∀ l : List Str, (∀ z ∈ l, PyData.strOk z = true) → PyData.canLayAll0 (l.map PyData.str) = true ∧ PyData.depthAll (l.map PyData.str) = 0 := fun l => by
    induction l with
    | nil => intro _; exact ⟨rfl, rfl⟩
    | cons x r ih =>
      intro h
      obtain ⟨a, b⟩ := ih fun z m => h z (List.mem_cons_of_mem _ m)
      have c := h x List.mem_cons_self
      rw [List.map_cons]
      constructor
      · show (PyData.canLay0 (.str x) && PyData.canLayAll0 (r.map PyData.str)) = true
        rw [a]
        show (PyData.strOk x && true) = true
        rw [c]; rfl
      · show max (PyData.depth (.str x)) (PyData.depthAll (r.map PyData.str)) = 0
        rw [b]; rfl
  have sh : ∀ l : List Str, (∀ z ∈ l, PyData.strOk z = true) → SeqAt.shaped (.tuple (l.map PyData.str)) = true := fun l h => by
    obtain ⟨a, b⟩ := cl l h
    show (PyData.canLayAll0 (l.map PyData.str) && decide (PyData.depthAll (l.map PyData.str) + 1 ≤ 64)) = true
    rw [a, b]; rfl
  have ev : ∀ l r : List Str, PyData.eqvAll (l.map PyData.str) (r.map PyData.str) = decide (l = r) := fun l => by
    induction l with
    | nil => intro r; cases r <;> simp [PyData.eqvAll]
    | cons x l ih =>
      intro r
      cases r with
      | nil => simp [PyData.eqvAll]
      | cons y r => rw [List.map_cons, List.map_cons, PyData.eqvAll, PyData.eqv, ih r]; by_cases e : x = y <;> simp [e]
  refine ⟨.tuple (zs.map .str), .tuple (us.map .str), .tup h1 (da zs), .tup h2 (da us), sh zs o1, sh us o2, ?_⟩
  have e : PyData.eqv (.tuple (zs.map PyData.str)) (.tuple (us.map PyData.str)) = decide (zs = us) := ev zs us
  rw [e]; exact q
end
end Tq
namespace Tq
open PySem PySem.Spec PyProof.Rows L2
/-! ### the rules that speak of the written part, told over K -/
section
variable {X : Cx} {K : PySem.W.Frag} {w : World} {tg e : Expr} {te : TE}
theorem k_len (h : X.K = K) : CallR X (.builtin "len") (rLenQ K) := h ▸ c_len
theorem k_list (h : X.K = K) : CallR X (.type "list") (rListQ K) := h ▸ c_list
theorem k_tuple (h : X.K = K) : CallR X (.type "tuple") (rTupQ K) := h ▸ c_tuple
theorem k_ixL (h : X.K = K) : IxR X (rIxL K) := h ▸ ix_list
theorem k_ixT (h : X.K = K) : IxR X (rIxT K) := h ▸ ix_tup
theorem k_slL (h : X.K = K) : SlR X (rSlL K) := h ▸ sl_list
theorem k_slT (h : X.K = K) : SlR X (rSlT K) := h ▸ sl_tup
theorem k_in (h : X.K = K) : OpR X (compareOp .In) (rIn K false) := h ▸ op_in_seq
theorem k_notIn (h : X.K = K) : OpR X (compareOp .NotIn) (rIn K true) := h ▸ op_notIn_seq
theorem k_eqD (h : X.K = K) (hu : X.A.units + 64 < cLine) : OpR X (compareOp .Eq) (rEqD K) := h ▸ op_eqD hu
theorem k_neD (h : X.K = K) (hu : X.A.units + 64 < cLine) : OpR X (compareOp .NotEq) (rNeD K) := h ▸ op_neD hu
theorem k_set (h : X.K = K) (h2 : X.w = w) (hc : X.calm = true) : CallR X (.type "set") (rSetT K w) := h ▸ h2 ▸ cr_setT hc
theorem k_sorted (h2 : X.w = w) (hc : X.calm = true) : CallR X (.builtin "sorted") (rSortT w) := h2 ▸ cr_sortT hc
theorem k_sortedL (h : X.K = K) : CallR X (.builtin "sorted") (rSortedS K) := h ▸ cr_sortedS
theorem k_inT (h2 : X.w = w) : OpR X (compareOp .In) (rInT w false) := h2 ▸ op_inT
theorem k_notInT (h2 : X.w = w) : OpR X (compareOp .NotIn) (rInT w true) := h2 ▸ op_notInT
theorem k_isi (h : X.K = K) : CallR X (.builtin "isinstance") (rIsi K) := h ▸ call_isi
theorem k_piL (h : X.K = K) (he : PE X e te) : PI X tg e (iList K te) := h ▸ pi_list he
theorem k_piT (h : X.K = K) (he : PE X e te) : PI X tg e (iTup K te) := h ▸ pi_tup he
end
end Tq
namespace Tq
open PySem PySem.Spec PyProof.Rows L2
section
variable {K : PySem.W.Frag} {H : Hp} {Q : VK} {p : Addr} {x : V} {xs : List V}
theorem ty_T (h : SqT K H p xs) : TyX K H (.ref p) (.type "tuple") := by
  rcases h with (h | ⟨o, h⟩) | ⟨o, its, n, h1, h2, _⟩
  · exact .base (.tup h)
  · exact .fTuple h
  · exact .kTuple h1 h2
theorem l_isi {t n : String} {b : Bool} (ty : TyX K H x (.type t)) (h : kitB t n = some b) (q : Q (.bl b) H) : rIsi K [x, .ty n] H Q := ⟨x, _, _, _, b, rfl, .ty n, ty, kit_ty h, q⟩
theorem kit_TT : kitB "tuple" "tuple" = some true := by decide +kernel
theorem kit_SS : kitB "str" "str" = some true := by decide +kernel
theorem kit_TS : kitB "tuple" "str" = some false := by decide +kernel
theorem kit_NS : kitB "NoneType" "str" = some false := by decide +kernel
theorem l_isTT (h : SqT K H p xs) (q : Q (.bl true) H) : rIsi K [.ref p, .ty "tuple"] H Q := l_isi (ty_T h) kit_TT q
theorem l_isSS {z : Str} (q : Q (.bl true) H) : rIsi K [.str z, .ty "str"] H Q := l_isi (.base (.str z)) kit_SS q
theorem l_isTS (h : SqT K H p xs) (q : Q (.bl false) H) : rIsi K [.ref p, .ty "str"] H Q := l_isi (ty_T h) kit_TS q
theorem l_isNS (q : Q (.bl false) H) : rIsi K [.non, .ty "str"] H Q := l_isi (.base .non) kit_NS q
end
end Tq
namespace Tq
theorem l_ifNT {A B : Prop} (h : B) : if (!true) = true then A else B := h
theorem l_ifNF {A B : Prop} (h : A) : if (!false) = true then A else B := h
end Tq
namespace Tq
open PySem PySem.Spec PyProof.Rows L2
/-- a def of the text, by what the top has left -/
def df_mk {K : PySem.W.Frag} {h : Heap} {mg : Str → Option Value} {x : Str} {st : Stmt} {ps : List Str} (X : K.In h) (G : h.Ns mainGlobals mg) {f : Addr} {od an : Option Addr} {sl : Array (Option Value)} {oc kV dc pm cd ct : Value}
    (a : PySem.W.nsIn K mainGlobals x = some (some (.ref f))) (l : K.lookup f = some ⟨oc, od, .func (PySem.W.fnOf x x (defArgs st) (defBody st) (defScope st) .none kV dc pm an cd ct), sl⟩) (c : PySem.W.codeIn K cd x = true) (k : PySem.W.keepIn K (.ref f) = true)
    (b : ∀ (kV doc pm : Value) (an : Option Addr) (cdv ct : Value) (us : List Value), us.length = ps.length → bindArgs (PySem.W.fnOf x x (defArgs st) (defBody st) (defScope st) .none kV doc pm an cdv ct) ⟨us, []⟩ = pure (ps.zip us)) : Df K mg x st ps :=
  ⟨f, _, fun_mk l c k, PySem.W.mg_of X G a, (fun_mk (x := x) (qual := x) (st := st) l c k).binds b⟩
end Tq
namespace Tq
open PySem PySem.Spec PyProof.Rows L2
/-! ### texts with a number -/
abbrev numS (k : Nat) : Str := Str.ofString (toString (k : Int))
theorem numS_list (k : Nat) : (numS k).cps.toList = (Nat.toDigits 10 k).map Char.toNat := by
  show (Str.ofString (toString (k : Int))).cps.toList = _
  rw [Str.ofString_eq_toList, Int.toString_eq_repr]
  show ((Int.repr (k : Int)).toList.map Char.toNat).toArray.toList = _
  have e : Int.repr (k : Int) = Nat.repr k := rfl
  rw [e, Nat.repr_eq_ofList_toDigits]
  simp
theorem numS_inj {i j : Nat} (h : numS i = numS j) : i = j := by
  have e : (Nat.toDigits 10 i).map Char.toNat = (Nat.toDigits 10 j).map Char.toNat := by rw [← numS_list, ← numS_list, h]
  have e2 : Nat.toDigits 10 i = Nat.toDigits 10 j := by
    refine List.map_inj_right (f := Char.toNat) (fun a b h => ?_) |>.mp e
    exact Char.toNat_inj.mp h
  rw [← Nat.ofDigitChars_toDigits (b := 10) (n := i) (by decide) (by decide), e2, Nat.ofDigitChars_toDigits (by decide) (by decide)]
theorem numS_len {k : Nat} (h : k < 100000) : (numS k).length ≤ 5 := toString_length_le (by omega) (by decide) (by omega)
theorem numS_ok (k : Nat) : ∀ c ∈ (numS k).cps.toList, 48 ≤ c ∧ c ≤ 57 := by
  intro c hc
  rw [numS_list] at hc
  obtain ⟨d, hd, rfl⟩ := List.mem_map.mp hc
  have := Nat.isDigit_of_mem_toDigits (by decide) (by decide) hd
  simp only [Char.isDigit, Bool.and_eq_true, decide_eq_true_eq] at this
  have h1 := this.1; have h2 := this.2
  constructor
  · exact h1
  · exact h2
/-- the letter and a number -/
def nm (z : Str) (k : Nat) : Str := z ++ numS k
theorem nm_inj {z : Str} {i j : Nat} (h : nm z i = nm z j) : i = j := by
  refine numS_inj ?_
  have e : z.cps ++ (numS i).cps = z.cps ++ (numS j).cps := congrArg Str.cps h
  have e2 := (Array.append_right_inj z.cps).mp e
  generalize numS i = a at e2 ⊢
  generalize numS j = b at e2 ⊢
  cases a; cases b
  simp only at e2
  rw [e2]
theorem nm_len {z : Str} {k : Nat} (h : k < 100000) : (nm z k).length ≤ z.length + 5 := by
  unfold nm
  rw [app_len]
  have := numS_len h
  omega
theorem strOk_app {x y : Str} (a : PyData.strOk x = true) (b : PyData.strOk y = true) : PyData.strOk (x ++ y) = true := by
  unfold PyData.strOk at *
  rw [← Array.all_toList] at *
  rw [app_list, List.all_append, a, b]; rfl
theorem strOk_num (k : Nat) : PyData.strOk (numS k) = true := by
  unfold PyData.strOk
  rw [← Array.all_toList, List.all_eq_true]
  intro c m
  have := numS_ok k c m
  exact decide_eq_true (by omega)
theorem strOk_nm {z : Str} (h : PyData.strOk z = true) (k : Nat) : PyData.strOk (nm z k) = true := strOk_app h (strOk_num k)
theorem empty_app (z : Str) : Str.empty ++ z = z := by
  have : (Str.empty ++ z).cps = z.cps := by
    show #[] ++ z.cps = z.cps
    simp
  generalize Str.empty ++ z = a at this ⊢
  cases a; cases z
  simp only at this
  rw [this]
/-- of the letter and 1, 2, .. n those that are not in xs -/
def named (z : Str) (xs : List Str) (n : Nat) : List Str := ((List.range' 1 n).map (nm z)).filter fun t => !decide (t ∈ xs)
theorem named_succ (z : Str) (xs : List Str) (n : Nat) : named z xs (n + 1) = named z xs n ++ (if nm z (n + 1) ∈ xs then [] else [nm z (n + 1)]) := by
  unfold named
  rw [List.range'_concat, List.map_append, List.filter_append]
  congr 1
  rw [show 1 + 1 * n = n + 1 by omega]
  by_cases h : nm z (n + 1) ∈ xs <;> simp [h]
theorem named_add (z : Str) (xs : List Str) (n k : Nat) : ∃ r, named z xs (n + k) = named z xs n ++ r := by
  induction k with
  | zero => exact ⟨[], by simp⟩
  | succ k ih =>
    obtain ⟨r, e⟩ := ih
    rw [← Nat.add_assoc, named_succ, e]
    exact ⟨_, List.append_assoc ..⟩
/-- so many are in xs at most -/
theorem named_len (z : Str) (xs : List Str) (n : Nat) : n ≤ (named z xs n).length + xs.length := by
  have nd : (((List.range' 1 n).map (nm z)).filter fun t => decide (t ∈ xs)).Nodup := by
    refine List.Pairwise.filter _ ?_
    refine List.Pairwise.map _ (fun a b (h : a ≠ b) e => h (nm_inj e)) (List.nodup_range' (s := 1) (n := n))
  have sub : (((List.range' 1 n).map (nm z)).filter fun t => decide (t ∈ xs)) ⊆ xs := by
    intro t m
    exact of_decide_eq_true (List.mem_filter.mp m).2
  have l := List.Nodup.length_le_of_subset nd sub
  have s : ∀ l : List Str, l.length = (l.filter fun t => decide (t ∈ xs)).length + (l.filter fun t => !decide (t ∈ xs)).length := fun l => by
    induction l with
    | nil => rfl
    | cons a r ih =>
      by_cases h : a ∈ xs
      · simp [h]; omega
      · simp [h]; omega
  have s2 := s ((List.range' 1 n).map (nm z))
  rw [List.length_map, List.length_range'] at s2
  unfold named
  omega
/-- the first m of them -/
def firstN (z : Str) (m : Nat) (xs : List Str) : List Str := (named z xs (m + xs.length)).take m
theorem firstN_of {z : Str} {m n : Nat} {xs : List Str} (h : (named z xs n).length = m) : named z xs n = firstN z m xs := by
  unfold firstN
  rcases Nat.le_total n (m + xs.length) with l | l
  · obtain ⟨k, e⟩ := Nat.le.dest l
    obtain ⟨r, er⟩ := named_add z xs n k
    rw [← e, er, ← h, List.take_left]
  · obtain ⟨k, e⟩ := Nat.le.dest l
    obtain ⟨r, er⟩ := named_add z xs (m + xs.length) k
    rw [e] at er
    have l1 := named_len z xs (m + xs.length)
    have l2 : (named z xs (m + xs.length)).length + r.length = m := by rw [← List.length_append, ← er, h]
    have r0 : r = [] := List.eq_nil_of_length_eq_zero (by omega)
    rw [er, r0, List.append_nil, List.take_of_length_le (by omega)]
theorem firstN_len (z : Str) (m : Nat) (xs : List Str) : (firstN z m xs).length = m := by
  unfold firstN
  rw [List.length_take]
  have := named_len z xs (m + xs.length)
  omega
theorem firstN_ok {z : Str} {m : Nat} {xs : List Str} : ∀ t ∈ firstN z m xs, ∃ k, t = nm z k ∧ k ≤ m + xs.length := by
  intro t ht
  have h := (List.mem_filter.mp (List.mem_of_mem_take ht)).1
  obtain ⟨k, hk, rfl⟩ := List.mem_map.mp h
  have := List.mem_range'_1.mp hk
  exact ⟨k, rfl, by omega⟩
end Tq
namespace Tq
open PySem PySem.Spec PyProof.Rows L2
/-- a def of one parameter and one by its name alone, whose default is () -/
structure Dk (K : PySem.W.Frag) (mg : Str → Option Value) (x : Str) (st : Stmt) (a k : Str) where
  f : Addr
  fd : FuncData
  e0 : Addr
  F : FunD K x x (defArgs st) (defBody st) (defScope st) [] [(k, .ref e0)] f fd
  g : mg x = some (.ref f)
  et : ∀ H : Hp, SqT K H e0 []
  b : ∃ ds, Vals [V.ref e0] ds ∧ Binds K fd [a, k] ds
  kb : KBn K fd [a, k] 1 [k] (fun us ws => us ++ ws) (fun vs zs => vs ++ zs)
def dk_mk {K : PySem.W.Frag} {h : Heap} {mg : Str → Option Value} {x a k : Str} {st : Stmt} (X : K.In h) (G : h.Ns mainGlobals mg) {f kd ke : Addr} {od an : Option Addr} {sl : Array (Option Value)} {oc dc pm cd ct : Value} {ko : Obj} {n : Nat}
    (ha : PySem.W.nsIn K mainGlobals x = some (some (.ref f))) (l : K.lookup f = some ⟨oc, od, .func (PySem.W.fnOf x x (defArgs st) (defBody st) (defScope st) .none (.ref kd) dc pm an cd ct), sl⟩) (c : PySem.W.codeIn K cd x = true) (kp : PySem.W.keepIn K (.ref f) = true)
    (hn : PySem.W.nsIn K kd k = some (some (.ref ke))) (ho : K.lookup ke = some ko) (ht : ko.cls = .type "tuple") (hd : ko.data = .seq #[] n)
    (h1 : ∀ (D : Addr) (doc pm : Value) (an : Option Addr) (cdv ct : Value) (us ks : List Value), us.length = 1 → ks.length = 1 →
      KwChain D (([(k, V.ref ke)].map (·.1)).zip ks) (bindArgs (PySem.W.fnOf x x (defArgs st) (defBody st) (defScope st) .none (.ref D) doc pm an cdv ct) ⟨us, []⟩) ([a, k].zip (us ++ ks)))
    (h2 : ∀ (kV doc pm : Value) (an : Option Addr) (cdv ct : Value) (us ws : List Value), us.length = 1 → ws.length = 1 →
      bindArgs (PySem.W.fnOf x x (defArgs st) (defBody st) (defScope st) .none kV doc pm an cdv ct) ⟨us, [k].zip ws⟩ = pure ([a, k].zip (us ++ ws))) : Dk K mg x st a k := by
  have F : FunD K x x (defArgs st) (defBody st) (defScope st) [] [(k, V.ref ke)] f (PySem.W.fnOf x x (defArgs st) (defBody st) (defScope st) .none (.ref kd) dc pm an cd ct) := by
    refine ⟨⟨oc, od, .none, .ref kd, dc, pm, an, cd, ct, sl, rfl, l, c, .inl ⟨rfl, rfl⟩, .inr ⟨kd, rfl, fun q hq => ?_⟩⟩, kp⟩
    rw [List.mem_singleton.mp hq]
    exact ⟨.ref ke, hn, rfl⟩
  refine ⟨f, _, ke, F, PySem.W.mg_of X G ha, fun H => .inr ⟨ko, #[], n, ho, ht, hd, Nat.zero_le _, .nil⟩, ?_, ⟨fun s us ws XI l1 l2 => .of_eq (h2 _ _ _ _ _ _ us ws l1 l2), fun r1 r2 => r1.append r2⟩⟩
  obtain ⟨ds, v, b⟩ := F.binds0 (ps := [a, k]) 1 (by simp) rfl h1
  exact ⟨ds, v, b⟩
section
variable {X : Cx} {K : PySem.W.Frag} {H : Hp} {Q : VK} {i j : Int} {σ : L2.St} {a p : Addr} {x y v : V} {xs ys : List V} {ta tb te : TE} {t u : TT} {D : Ends} {A B : TS} {tr tk : TA} {g : TG} {sp : Sp} {E : XK}
theorem l_callN {n m : Nat} {gV : List V → List V → List V} (q : tr σ H fun vs H1 => tk σ H1 fun zs H2 => vs.length = n ∧ zs.length = m ∧ sp (gV vs zs) H2 Q E) : tCallN n m sp gV E tr tk σ H Q := q
theorem l_callD {dvs : List V} (q : tr σ H fun vs H1 => sp (vs ++ dvs) H1 Q E) : tCall sp dvs E tr σ H Q := q
theorem l_andV (q : ta σ H fun x H1 => ∃ c, x = .bl c ∧ if c = true then tb σ H1 Q else Q (.bl false) H1) : tAndV ta tb σ H Q := q
theorem l_orV (q : ta σ H fun x H1 => ∃ c, x = .bl c ∧ if c = true then Q (.bl true) H1 else tb σ H1 Q) : tOrV ta tb σ H Q := q
theorem l_notV (q : ta σ H fun x H1 => ∃ c, x = .bl c ∧ Q (.bl (!c)) H1) : tNotV ta σ H Q := q
theorem l_while (W : Nat → L2.St → Hp → Prop) (m : Nat) (w0 : W m σ H) (hs : ∀ m σ H, W m σ H → t σ H fun b H1 => if b = true then ∃ N : L2.St → Hp → Prop, (∀ σ' H', N σ' H' → ∃ m', m' < m ∧ W m' σ' H') ∧ A { D with nx := N, ct := N, bk := D.nx } σ H1 else D.nx σ H1) :
    tWhile t A D σ H := ⟨W, ⟨m, w0⟩, hs⟩
theorem l_jsN {acc : Str} {R : Str → Hp → Prop} (q : R acc H) : tJs [] acc σ H R := q
theorem l_jsC {acc : Str} {ts : List TE} {R : Str → Hp → Prop} (q : te σ H fun x H1 => ∃ y : Str, x = .str y ∧ (acc ++ y).length ≤ sizeLine ∧ tJs ts (acc ++ y) σ H1 R) : tJs (te :: ts) acc σ H R := q
theorem l_fmtS (q : te σ H fun x H1 => (∃ y : Str, x = .str y ∧ y.length ≤ sizeLine ∧ Q (.str y) H1) ∨ ∃ i : Int, x = .int i ∧ i.natAbs.log2 < 1920 ∧ Q (.str (toString i)) H1) : tFmt te σ H Q := q
theorem l_rng2 {R : It → Hp → Prop} (q : tr σ H fun vs H1 => ∃ i j : Int, vs = [.int i, .int j] ∧ (-(2 ^ 62) ≤ i ∧ i < 2 ^ 62 ∧ -(2 ^ 62) ≤ j ∧ j < 2 ^ 62) ∧ R (Itr i (j - i).toNat) H1) : iRng2 tr σ H R := q
/-- != of two tuples of texts -/
theorem eqv_texts : ∀ l r : List Str, PyData.eqvAll (l.map PyData.str) (r.map PyData.str) = decide (l = r)
  | [], [] => by simp [PyData.eqvAll]
  | [], _ :: _ => by simp [PyData.eqvAll]
  | _ :: _, [] => by simp [PyData.eqvAll]
  | x :: l, y :: r => by
    rw [List.map_cons, List.map_cons, PyData.eqvAll, PyData.eqv, eqv_texts l r]
    by_cases e : x = y <;> simp [e]
theorem shaped_texts {l : List Str} (h : ∀ z ∈ l, PyData.strOk z = true) : SeqAt.shaped (.tuple (l.map PyData.str)) = true := by
  have cl : ∀ l : List Str, (∀ z ∈ l, PyData.strOk z = true) → PyData.canLayAll0 (l.map PyData.str) = true ∧ PyData.depthAll (l.map PyData.str) = 0 := fun l => by
    induction l with
    | nil => intro _; exact ⟨rfl, rfl⟩
    | cons x r ih =>
      intro h
      obtain ⟨a, b⟩ := ih fun z m => h z (List.mem_cons_of_mem _ m)
      rw [List.map_cons]
      constructor
      · show (PyData.strOk x && PyData.canLayAll0 (r.map PyData.str)) = true
        rw [a, h x List.mem_cons_self]; rfl
      · show max (PyData.depth (.str x)) (PyData.depthAll (r.map PyData.str)) = 0
        rw [b]; rfl
  obtain ⟨a, b⟩ := cl l h
  show (PyData.canLayAll0 (l.map PyData.str) && decide (PyData.depthAll (l.map PyData.str) + 1 ≤ 64)) = true
  rw [a, b]; rfl
theorem dp_texts (l : List Str) : DpAll K H (l.map V.str) (l.map PyData.str) := by
  induction l with
  | nil => exact .nil
  | cons x r ih => exact .cons (.str x) ih
theorem l_neT {q1 q2 : Addr} {zs us : List Str} (h1 : SqT K H q1 (zs.map V.str)) (h2 : SqT K H q2 (us.map V.str)) (o1 : ∀ z ∈ zs, PyData.strOk z = true) (o2 : ∀ z ∈ us, PyData.strOk z = true) (q : Q (.bl (!decide (zs = us))) H) : rNeD K (.ref q1) (.ref q2) H Q := by
  refine ⟨.tuple (zs.map .str), .tuple (us.map .str), .tup h1 (dp_texts zs), .tup h2 (dp_texts us), shaped_texts o1, shaped_texts o2, ?_⟩
  have e : PyData.eqv (.tuple (zs.map PyData.str)) (.tuple (us.map PyData.str)) = decide (zs = us) := eqv_texts zs us
  rw [e]; exact q
end
end Tq
namespace Tq
open PySem PySem.Spec PyProof.Rows L2
/-- one more of the first n -/
theorem take_step (z : Str) (xs : List Str) (n i : Nat) : (named z xs (i + 1)).take n =
    if nm z (i + 1) ∉ xs ∧ ((named z xs i).take n).length < n then (named z xs i).take n ++ [nm z (i + 1)] else (named z xs i).take n := by
  rw [named_succ]
  by_cases h : nm z (i + 1) ∈ xs
  · simp [h]
  · rw [if_neg h]
    by_cases l : (named z xs i).length < n
    · rw [if_pos ⟨h, by rw [List.take_of_length_le (by omega)]; exact l⟩, List.take_of_length_le (by rw [List.length_append, List.length_singleton]; omega), List.take_of_length_le (by omega)]
    · rw [if_neg (fun c => l (by have := c.2; rw [List.length_take] at this; omega)), List.take_append_of_le_length (by omega)]
theorem nm_def (z : Str) (k : Nat) : z ++ Str.ofString (toString (k : Int)) = nm z k := rfl
theorem log_small {i : Int} (h0 : 0 ≤ i) (h : i < 1000000) : i.natAbs.log2 < 1920 := by
  have : i.natAbs < 2 ^ 1920 := Nat.lt_of_lt_of_le (show i.natAbs < 2 ^ 20 by omega) (Nat.pow_le_pow_right (by decide) (by decide))
  by_cases e : i.natAbs = 0
  · rw [e]; decide
  · exact (Nat.log2_lt e).mpr this
end Tq
namespace Tq
open L2
theorem _root_.L2.Same.seqT {K : PySem.W.Frag} {H H' : Hp} {a : PySem.Addr} {xs : List V} (e : Same H H') (h : SqT K H a xs) : SqT K H' a xs := by
  rcases h with (h | ⟨o, h⟩) | h
  · exact .inl (.inl (e _ _ h))
  · exact .inl (.inr ⟨o, e _ _ h⟩)
  · exact .inr h
theorem But.seqT {K : PySem.W.Frag} {H H' : Hp} {t a : PySem.Addr} {xs : List V} (e : But t H H') (n : a ≠ t) (h : SqT K H a xs) : SqT K H' a xs := by
  rcases h with (h | ⟨o, h⟩) | h
  · exact .inl (.inl (e _ _ n h))
  · exact .inl (.inr ⟨o, e _ _ n h⟩)
  · exact .inr h
end Tq
namespace Tq
open L2
/-- what holds between two statements -/
theorem l_cut {A B : TS} {D : Ends} {σ : L2.St} {H : Hp} (I : L2.St → Hp → Prop) (hA : ∀ N : L2.St → Hp → Prop, (∀ σ' H', I σ' H' → N σ' H') → A { D with nx := N } σ H) (hB : ∀ σ' H', I σ' H' → B D σ' H') : tSeq A B D σ H := hA (B D) hB
end Tq
open PySem PySem.Spec PyProof.Rows L2 Tq
local macro_rules | `(tactic| walk_at "look") => `(tactic| first | assumption | exact upd_same | (rw [upd_ne (by first | assumption | (apply Ne.symm; assumption))]; walk_at "look"))
local macro_rules | `(tactic| walk_at "s") => `(tactic| first
  | with_reducible refine' l_seq ?_
  | with_reducible refine' l_next ?_
  | with_reducible refine' l_asg ?_
  | with_reducible refine' l_gname ?_
  | with_reducible refine' l_gsub ?_
  | with_reducible refine' l_c ?_
  | ((with_reducible refine' l_var ?k1 ?_); (case k1 => exact rfl))
  | with_reducible refine' l_op ?_
  | with_reducible refine' l_cb ?_
  | with_reducible refine' l_nil ?_
  | with_reducible refine' l_cons ?_
  | with_reducible refine' l_call ?_
  | with_reducible refine' l_callN ?_
  | with_reducible refine' l_callD ?_
  | with_reducible refine' l_andV ?_
  | with_reducible refine' l_orT ?_
  | with_reducible refine' l_isN ?_
  | with_reducible refine' l_notN ?_
  | with_reducible refine' l_dnew ?_
  | with_reducible refine' l_orV ?_
  | with_reducible refine' l_notV ?_
  | with_reducible refine' l_jsN ?_
  | with_reducible refine' l_jsC ?_
  | with_reducible refine' l_fmtS ?_
  | with_reducible refine' l_rng2 ?_
  | with_reducible refine' l_ifs ?_
  | with_reducible refine' l_test ?_
  | with_reducible refine' l_b ?_
  | with_reducible refine' l_bl ?_
  | with_reducible refine' l_not ?_
  | with_reducible refine' l_or ?_
  | with_reducible refine' l_and ?_
  | with_reducible refine' l_ret ?_
  | with_reducible refine' l_drop ?_
  | with_reducible refine' l_lst ?_
  | with_reducible refine' l_lc ?_
  | with_reducible refine' l_for ?_
  | with_reducible refine' l_rng1 ?_
  | with_reducible refine' l_ilist ?_
  | with_reducible refine' l_itup ?_
  | with_reducible refine' l_yes ?_
  | ((with_reducible refine' And.intro (l_tyL ?k1) ?_); (case k1 => exact sqL (by walk_at "look")))
  | ((with_reducible refine' l_aug ?k1 ?_); (case k1 => exact rfl))
  | with_reducible refine' l_augS ?_
  | with_reducible refine' l_subB ?_
  | with_reducible refine' l_par ?_
  | with_reducible refine' l_intB ?_
  | ((with_reducible refine' l_mulX ?k1 ?_); (case k1 => assumption))
  | with_reducible refine' l_dc ?_
  | with_reducible refine' l_nd0 ?_
  | ((with_reducible refine' l_ixN ?k1 ?k2 ?k3 ?k4 ?_); (case k1 => exact sqL (by walk_at "look")); (case k2 => omega); (case k3 => omega); (case k4 => assumption))
  | with_reducible refine' l_enT ?_
  | with_reducible refine' l_revT ?_
  | with_reducible refine' l_isII ?_
  | with_reducible refine' l_isIB ?_
  | with_reducible refine' l_ipI ?_
  | with_reducible refine' l_ifE ?_
  | with_reducible refine' l_un ?_
  | with_reducible refine' l_neg ?_
  | with_reducible refine' l_sl0 ?_
  | with_reducible refine' l_np ?_
  | with_reducible refine' l_tup ?_
  | with_reducible refine' l_bm ?_
  | with_reducible refine' l_add ?_
  | with_reducible refine' l_sub ?_
  | with_reducible refine' l_lt ?_
  | with_reducible refine' l_le ?_
  | with_reducible refine' l_gt ?_
  | with_reducible refine' l_ge ?_
  | with_reducible refine' l_eqI ?_
  | with_reducible refine' l_neI ?_
  | with_reducible refine' l_int ?_
  | with_reducible refine' l_abs ?_
  | with_reducible refine' l_max ?_
  | with_reducible refine' l_min ?_
  | ((with_reducible refine' l_mod ?k1 ?_); (case k1 => first | decide | omega))
  | ((with_reducible refine' l_div ?k1 ?_); (case k1 => exact ⟨by omega, by omega⟩))
  | ((with_reducible refine' l_mul ?k1 ?_); (case k1 => first | assumption | exact Or.inr ⟨by decide, by decide⟩ | exact Or.inl ⟨by omega, by omega⟩))
  | ((with_reducible refine' l_pow ?k1 ?_); (case k1 => exact ⟨by decide, by decide, by decide⟩))
  | ((with_reducible refine' l_ixL ?k1 ?k2 ?_); (case k1 => exact sqL (by walk_at "look")); (case k2 => first | exact rfl | assumption))
  | ((with_reducible refine' l_setL ?k1 ?k2 ?_); (case k1 => walk_at "look"); (case k2 => first | exact rfl | assumption))
  | ((with_reducible refine' l_lenL ?k1 ?_); (case k1 => exact sqL (by walk_at "look")))
  | ((with_reducible refine' l_ixS ?k1 ?k2 ?_); (case k1 => first | assumption | decide); (case k2 => first | assumption | exact rfl))
  | ((with_reducible refine' l_mulS ?k1 ?_); (case k1 => first | assumption | exact ⟨by show 1 ≤ 1000; decide, by omega, by omega⟩))
  | ((with_reducible refine' l_addS ?k1 ?_); (case k1 => first | assumption | (first | decide | omega)))
  | ((with_reducible refine' l_isTT ?k1 ?_); (case k1 => first | assumption | exact sqT (by walk_at "look")))
  | with_reducible refine' l_isSS ?_
  | ((with_reducible refine' l_isTS ?k1 ?_); (case k1 => first | assumption | exact sqT (by walk_at "look")))
  | with_reducible refine' l_isNS ?_
  | ((with_reducible refine' l_app ?k1 ?k2 ?_); (case k1 => walk_at "look"); (case k2 => assumption))
  | ((with_reducible refine' l_ixT ?k1 ?k2 ?_); (case k1 => first | assumption | exact sqT (by walk_at "look")); (case k2 => first | assumption | exact rfl))
  | ((with_reducible refine' l_lenT ?k1 ?_); (case k1 => first | assumption | exact sqT (by walk_at "look")))
  | with_reducible refine' l_ltS ?_
  | with_reducible refine' l_leS ?_
  | with_reducible refine' l_eqS ?_
  | with_reducible refine' l_neS ?_
  | with_reducible refine' l_ifNT ?_
  | with_reducible refine' l_ifNF ?_
  | with_reducible refine' l_ifT ?_
  | with_reducible refine' l_ifF ?_)
local macro_rules | `(tactic| walk_at "go") => `(tactic| repeat walk_at "s")
namespace K00
open PySem PySem.Spec PyProof.Rows L2 Tq
def topS (i : Nat) : Stmt := PySem.Challenge.pw_migraproof_k00_sample_and_spare_texts.main.body.getD i (.Pass ⟨0, 0, 0, 0⟩)
abbrev s_sample_texts : Stmt := topS 1
theorem sc_sample_texts : FnScope ["many", "but"] ["many", "but"] (defScope s_sample_texts) := ⟨rfl, rfl, rfl, by decide +kernel, rfl, by decide +kernel, by decide +kernel⟩
abbrev s_spare_texts : Stmt := topS 2
theorem sc_spare_texts : FnScope ["many", "but"] ["many", "but"] (defScope s_spare_texts) := ⟨rfl, rfl, rfl, by decide +kernel, rfl, by decide +kernel, by decide +kernel⟩
abbrev s_numbered_texts : Stmt := topS 3
theorem sc_numbered_texts : FnScope ["letter", "many", "constants", "taken", "found", "number", "text"] ["letter", "many", "constants"] (defScope s_numbered_texts) := ⟨rfl, rfl, rfl, by decide +kernel, rfl, by decide +kernel, by decide +kernel⟩
abbrev s_law_tape : Stmt := topS 5
theorem sc_law_tape : FnScope ["script", "total", "cell"] ["script"] (defScope s_law_tape) := ⟨rfl, rfl, rfl, by decide +kernel, rfl, by decide +kernel, by decide +kernel⟩
abbrev s_law_draw : Stmt := topS 6
theorem sc_law_draw : FnScope ["tape", "many", "place", "number"] ["tape", "many"] (defScope s_law_draw) := ⟨rfl, rfl, rfl, by decide +kernel, rfl, by decide +kernel, by decide +kernel⟩
abbrev s_law_text : Stmt := topS 7
theorem sc_law_text : FnScope ["tape", "marks", "choice", "number", "length", "place", "first"] ["tape"] (defScope s_law_text) := ⟨rfl, rfl, rfl, by decide +kernel, rfl, by decide +kernel, by decide +kernel⟩
abbrev s_law_known : Stmt := topS 8
theorem sc_law_known : FnScope ["tape", "most", "found", "k", "number", "text"] ["tape", "most"] (defScope s_law_known) := ⟨rfl, rfl, rfl, by decide +kernel, rfl, by decide +kernel, by decide +kernel⟩
abbrev s_law_first : Stmt := topS 9
theorem sc_law_first : FnScope ["letter", "many", "constants", "found", "k", "text"] ["letter", "many", "constants"] (defScope s_law_first) := ⟨rfl, rfl, rfl, by decide +kernel, rfl, by decide +kernel, by decide +kernel⟩
abbrev s_law : Stmt := topS 10
theorem sc_law : FnScope ["script", "tape", "many", "constants"] ["script"] (defScope s_law) := ⟨rfl, rfl, rfl, by decide +kernel, rfl, by decide +kernel, by decide +kernel⟩
structure Txt (mg : Str → Option Value) : Prop where
  b_abs : mg "abs" = none
  b_int : mg "int" = none
  b_len : mg "len" = none
  b_list : mg "list" = none
  b_max : mg "max" = none
  b_range : mg "range" = none
  b_set : mg "set" = none
  b_sorted : mg "sorted" = none
  b_str : mg "str" = none
  b_tuple : mg "tuple" = none
structure Ds (K : PySem.W.Frag) (mg : Str → Option Value) where
  sample_texts : Dk K mg "sample_texts" s_sample_texts "many" "but"
  spare_texts : Dk K mg "spare_texts" s_spare_texts "many" "but"
  numbered_texts : Df K mg "numbered_texts" s_numbered_texts ["letter", "many", "constants"]
  law_tape : Df K mg "_law_tape" s_law_tape ["script"]
  law_draw : Df K mg "_law_draw" s_law_draw ["tape", "many"]
  law_text : Df K mg "_law_text" s_law_text ["tape"]
  law_known : Df K mg "_law_known" s_law_known ["tape", "most"]
  law_first : Df K mg "_law_first" s_law_first ["letter", "many", "constants"]
  law : Df K mg "law" s_law ["script"]
end K00
namespace K00
open PySem PySem.Spec PyProof.Rows L2 Tq
section
variable {P : Program} {w : World} {K : PySem.W.Frag} {mg : Str → Option Value} {base : Heap}
def spNum (K : PySem.W.Frag) : Sp := fun vs H Q _ => ∃ (z : Str) (n : Int) (p0 : Addr) (xs : List Str), vs = [.str z, .int n, .ref p0] ∧ z.length ≤ 12 ∧ 0 ≤ n ∧ n ≤ 1000 ∧ SqT K H p0 (xs.map V.str) ∧ xs.length ≤ 1000 ∧
  ∀ (p : Addr) (H' : Hp), Same H H' → H p = none → H' p = some (.tup ((firstN z n.toNat xs).map V.str)) → Q (.ref p) H'
def spFirst (K : PySem.W.Frag) (z : Str) : Sp := fun vs H Q _ => ∃ (n : Int) (p0 : Addr) (xs : List Str), vs = [.int n, .ref p0] ∧ 0 ≤ n ∧ n ≤ 1000 ∧ SqT K H p0 (xs.map V.str) ∧ xs.length ≤ 1000 ∧
  ∀ (p : Addr) (H' : Hp), Same H H' → H p = none → H' p = some (.tup ((firstN z n.toNat xs).map V.str)) → Q (.ref p) H'

theorem ok_numbered_texts (D : Ds K mg) (T : Txt mg) : FnOk P w K mg base CX0 1 D.numbered_texts.f D.numbered_texts.fd ["letter", "many", "constants"] (spNum K) := by
  have sc := sc_numbered_texts
  refine D.numbered_texts.F.ok sc (fun vs H Q E h => ?_) (fun cdv A outer s H vs Q E hr h => ?_)
  · obtain ⟨z, n, p0, xs, rfl, _⟩ := h
    rfl
  · obtain ⟨z, n, p0, xs, rfl, z12, n0, n1, hS, xl, q⟩ := h
    refine ⟨_, (pss_cons (ps_set (i := 3) sc.nd rfl (Or.inl rfl) (pe_callTy (k_set (K := K) (w := w) rfl rfl rfl) (by rfl) T.b_set (by decide +kernel) (pa_cons (pv 2) pa_nil)))
    (pss_cons (ps_set (i := 4) sc.nd rfl (Or.inl rfl) (pe_lst pa_nil))
    (pss_cons (ps_set (i := 5) sc.nd rfl (Or.inl rfl) pe_int)
    (pss_cons (ps_while PassesOwn.never (pt_cmpR o_lt (pe_callB (k_len (K := K) rfl) (by rfl) T.b_len PySem.boot_len (pa_cons (pv 4) pa_nil)) (pv 1) (nomark _)) (pss_cons (ps_set (i := 6) sc.nd rfl (Or.inl rfl) (pe_joined (PJ.cons (pe_fmt (pv 0)) (PJ.cons (pe_fmt (pv 5)) PJ.nil))))
    (pss_cons (ps_if (pt_cmpR (k_notInT (w := w) rfl) (pv 6) (pv 3) (by rfl)) (pss_one (ps_expr (pe_bm PySem.F.plainAttrs_list PySem.F.slot_list_append PySem.F.type_list_append mt_append (pv 4) (pa_cons (pv 6) pa_nil)))) pss_nil)
    (pss_one (ps_aug (i := 5) sc.nd rfl (Or.inl rfl) pe_int ip_add)))))
    (pss_one (ps_ret (pe_callTy (k_tuple (K := K) rfl) (by rfl) T.b_tuple (by decide +kernel) (pa_cons (pv 4) pa_nil)))))))), ?_⟩
    walk_at "go"
    have sb : (1000 : Nat) + 1 < scanBound := by decide
    refine ⟨p0, xs, rfl, hS, by omega, fun c nc => ?_⟩
    walk_at "go"
    refine ⟨Nat.zero_le _, fun d nd => ?_⟩
    walk_at "go"
    have s1 := new_same (o := TSO w c (once xs)) nc
    have cd : c ≠ d := fun e => by
      rw [← e, upd_same] at nd
      cases nd
    refine l_while (fun m σ H' => ∃ (k : Nat) (y : Option V), σ = [some (.str z), some (.int n), some (.ref p0), some (.ref c), some (.ref d), some (.int ((k : Int) + 1)), y] ∧ m + k = n.toNat + xs.length + 1 ∧ (named z xs k).length ≤ n.toNat ∧
      Same H H' ∧ H' c = some (TSO w c (once xs)) ∧ H' d = some (.lst ((named z xs k).map V.str))) (n.toNat + xs.length + 1) ⟨0, none, rfl, rfl, Nat.zero_le _, s1.trans (new_same nd), by rw [upd_ne cd]; exact upd_same, upd_same⟩ ?_
    rintro m σ H' ⟨k, y, rfl, em, kl, sm, hc, hd⟩
    have nl := named_len z xs k
    walk_at "go"
    refine l_if (fun c1 => ?_) (fun c1 => ?_)
    · rw [List.length_map] at c1
      have mp : 0 < m := by omega
      refine ⟨fun σ' H' => ∃ m', m' < m ∧ _, fun _ _ h => h, ?_⟩
      walk_at "go"
      have z0 : (Str.empty ++ z).length ≤ sizeLine := by rw [empty_app]; exact fits (by omega)
      refine .inl ⟨z, rfl, fits (by omega), z, rfl, z0, ?_⟩
      walk_at "go"
      have k1 : ((k : Int) + 1) = ((k + 1 : Nat) : Int) := by omega
      have e1 : Str.empty ++ z ++ Str.ofString (toString ((k : Int) + 1)) = nm z (k + 1) := by
        rw [empty_app, k1]; rfl
      refine .inr ⟨(k : Int) + 1, rfl, log_small (by omega) (by omega), _, rfl, ?_, ?_⟩
      · rw [e1]
        have := nm_len (z := z) (show k + 1 < 100000 by omega)
        exact fits (by omega)
      rw [e1]
      walk_at "go"
      refine ⟨nm z (k + 1), c, once xs, rfl, rfl, hc, ?_⟩
      walk_at "go"
      have mem : nm z (k + 1) ∈ once xs ↔ nm z (k + 1) ∈ xs := once_mem xs _
      refine l_ifN (fun c2 => ?_) (fun c2 => ?_)
      · have nx : nm z (k + 1) ∉ xs := fun h => c2 (mem.mpr h)
        have e2 : named z xs (k + 1) = named z xs k ++ [nm z (k + 1)] := by rw [named_succ, if_neg nx]
        have room : ((named z xs k).map V.str).length < sizeLine := by
          rw [List.length_map]; exact fits_lt (by omega)
        walk_at "go"
        refine ⟨m - 1, by omega, k + 1, _, by rw [k1]; rfl, by omega, by rw [e2, List.length_append, List.length_singleton]; omega, ?_, by rw [upd_ne cd]; exact hc, by rw [upd_same, e2, List.map_append]; rfl⟩
        intro b o hb
        rw [upd_ne (ne_of_none (s1 _ _ hb) nd)]
        exact sm b o hb
      · have mx : nm z (k + 1) ∈ xs := mem.mp c2
        have e2 : named z xs (k + 1) = named z xs k := by rw [named_succ, if_pos mx, List.append_nil]
        walk_at "go"
        exact ⟨m - 1, by omega, k + 1, _, by rw [k1]; rfl, by omega, by rw [e2]; omega, sm, hc, by rw [e2]; exact hd⟩
    · rw [List.length_map] at c1
      walk_at "go"
      refine l_tupL (sqL hd) fun p np => ?_
      show Q _ _
      have e3 := firstN_of (z := z) (m := n.toNat) (n := k) (xs := xs) (by omega)
      exact q p _ (sm.trans (new_same np)) (sm.free np) (by rw [upd_same, e3])
end
end K00
namespace K00
open PySem PySem.Spec PyProof.Rows L2 Tq
section
variable {P : Program} {w : World} {K : PySem.W.Frag} {mg : Str → Option Value} {base : Heap}

theorem ok_sample_texts (D : Ds K mg) (T : Txt mg) : FnOk P w K mg base CX0 2 D.sample_texts.f D.sample_texts.fd ["many", "but"] (spFirst K "v") := by
  have sc := sc_sample_texts
  refine D.sample_texts.F.ok sc (fun vs H Q E h => ?_) (fun cdv A outer s H vs Q E hr h => ?_)
  · obtain ⟨n, p0, xs, rfl, _⟩ := h
    rfl
  · obtain ⟨n, p0, xs, rfl, n0, n1, hS, xl, q⟩ := h
    refine ⟨_, PSs.nox (pss_one (ps_ret (pe_call (ok_numbered_texts D T) hr (by rfl) D.numbered_texts.g D.numbered_texts.F.kp D.numbered_texts.b .nil pass0 (pa_cons pe_str (pa_cons (pv 0) (pa_cons (pv 1) pa_nil)))))), ?_⟩
    walk_at "go"
    exact ⟨"v", n, p0, xs, rfl, by decide, n0, n1, hS, xl, q⟩
end
end K00
namespace K00
open PySem PySem.Spec PyProof.Rows L2 Tq
section
variable {P : Program} {w : World} {K : PySem.W.Frag} {mg : Str → Option Value} {base : Heap}

theorem ok_spare_texts (D : Ds K mg) (T : Txt mg) : FnOk P w K mg base CX0 2 D.spare_texts.f D.spare_texts.fd ["many", "but"] (spFirst K "c") := by
  have sc := sc_spare_texts
  refine D.spare_texts.F.ok sc (fun vs H Q E h => ?_) (fun cdv A outer s H vs Q E hr h => ?_)
  · obtain ⟨n, p0, xs, rfl, _⟩ := h
    rfl
  · obtain ⟨n, p0, xs, rfl, n0, n1, hS, xl, q⟩ := h
    refine ⟨_, PSs.nox (pss_one (ps_ret (pe_call (ok_numbered_texts D T) hr (by rfl) D.numbered_texts.g D.numbered_texts.F.kp D.numbered_texts.b .nil pass0 (pa_cons pe_str (pa_cons (pv 0) (pa_cons (pv 1) pa_nil)))))), ?_⟩
    walk_at "go"
    exact ⟨"c", n, p0, xs, rfl, by decide, n0, n1, hS, xl, q⟩
end
end K00
namespace K00
open PySem PySem.Spec PyProof.Rows L2 Tq
section
variable {P : Program} {w : World} {K : PySem.W.Frag} {mg : Str → Option Value} {base : Heap}
def spTape (K : PySem.W.Frag) : Sp := fun vs H Q _ => ∃ (s : Addr) (ns : List Int), vs = [.ref s] ∧ SqL K H s (ns.map V.int) ∧ ns.length ≤ 63 ∧ ∀ (t a : Addr) (H' : Hp), Same H H' → Tape H' t a → H t = none → H a = none → Q (.ref t) H'

theorem ok_law_tape (D : Ds K mg) (T : Txt mg) : FnOk P w K mg base CX0 1 D.law_tape.f D.law_tape.fd ["script"] (spTape K) := by
  have sc := sc_law_tape
  refine D.law_tape.F.ok sc (fun vs H Q E h => ?_) (fun cdv A outer s H vs Q E hr h => ?_)
  · obtain ⟨s0, ns, rfl, _⟩ := h
    rfl
  · obtain ⟨s0, ns, rfl, hS, few, q⟩ := h
    refine ⟨_, (pss_cons (ps_set (i := 1) sc.nd rfl (Or.inl rfl) pe_int)
    (pss_cons (ps_for PassesOwn.never rfl (k_piL (K := K) rfl (pv 0)) (pg_name (i := 2) sc.nd rfl (Or.inl rfl)) (pss_one (ps_set (i := 1) sc.nd rfl (Or.inl rfl) (pe_op o_mod (pe_callTy c_int (by rfl) T.b_int (by decide +kernel) (pa_cons (pe_op o_add (pe_op o_mul (pv 1) pe_int) (pe_callB c_abs (by rfl) T.b_abs (by decide +kernel) (pa_cons (pe_callTy c_int (by rfl) T.b_int (by decide +kernel) (pa_cons (pv 2) pa_nil)) pa_nil))) pa_nil)) pe_int))))
    (pss_one (ps_ret (pe_lst (pa_cons (pe_callTy (k_list (K := K) rfl) (by rfl) T.b_list (by decide +kernel) (pa_cons (pv 0) pa_nil)) (pa_cons pe_int (pa_cons pe_int (pa_cons (pv 1) pa_nil))))))))), ?_⟩
    walk_at "go"
    refine ⟨s0, rfl, ⟨_, hS⟩, for_list (xs := ns.map V.int) (fun i σ H' => ∃ c y, σ = [some (.ref s0), some (.int c), y] ∧ 0 ≤ c ∧ H' = H) ⟨7, none, rfl, by decide, rfl⟩ ?_ ?_ ?_⟩
    · rintro i σ H' _ ⟨c, y, rfl, _, rfl⟩
      exact hS
    · rintro i x σ H' hx ⟨c, y, rfl, c0, rfl⟩
      obtain ⟨z, _, rfl⟩ : ∃ z, ns[i]? = some z ∧ x = V.int z := by
        rw [List.getElem?_map] at hx
        cases e : ns[i]? with
        | none => rw [e] at hx; cases hx
        | some z => rw [e] at hx; exact ⟨z, rfl, (Option.some.inj hx).symm⟩
      have m31 : CMul c 31 := .inr ⟨by decide, by decide⟩
      have z0 := abs_nn z
      walk_at "go"
      exact ⟨_, _, rfl, (fmod_lt (by omega) (by decide)).1, rfl⟩
    · rintro σ H' ⟨c, y, rfl, c0, rfl⟩
      walk_at "go"
      refine l_listL hS fun l nl => ?_
      walk_at "go"
      refine ⟨(by show 4 ≤ sizeLine; decide), fun p np => ?_⟩
      show Q _ _
      have nlp : l ≠ p := fun e => by
        rw [← e, upd_same] at np
        cases np
      have np' : H' p = none := by rwa [upd_ne nlp.symm] at np
      refine q p l _ ((new_same nl).trans (new_same np)) ⟨ns, 0, 0, c, nlp, by decide, by decide, c0, by rw [upd_ne nlp]; exact upd_same, upd_same⟩ np' nl
end
end K00
namespace K00
open PySem PySem.Spec PyProof.Rows L2 Tq
section
variable {P : Program} {w : World} {K : PySem.W.Frag} {mg : Str → Option Value} {base : Heap}
/-- what a draw gives: a number below the bound, the tape as a tape -/
def spDraw (K : PySem.W.Frag) : Sp := fun vs H Q _ => ∃ (t a : Addr) (m : Int), vs = [.ref t, .int m] ∧ Tape H t a ∧ m < 1000000000000 ∧
  ∀ (n : Int) (H' : Hp), 0 ≤ n → n < max m 1 → Tape H' t a → But t H H' → Q (.int n) H'

theorem ok_law_draw (D : Ds K mg) (T : Txt mg) : FnOk P w K mg base CX0 1 D.law_draw.f D.law_draw.fd ["tape", "many"] (spDraw K) := by
  have sc := sc_law_draw
  refine D.law_draw.F.ok sc (fun vs H Q E h => ?_) (fun cdv A outer s H vs Q E hr h => ?_)
  · obtain ⟨t, a, m, rfl, _⟩ := h
    rfl
  · obtain ⟨t, a, m, rfl, hT, hm, q⟩ := h
    refine ⟨_, (pss_cons (ps_if (pt_cmpR op_eq (pe_ix (k_ixL (K := K) rfl) (pv 0) pe_int (fun _ _ => rfl)) pe_int (nomark _)) (pss_cons (ps_set (i := 2) sc.nd rfl (Or.inl rfl) (pe_ix (k_ixL (K := K) rfl) (pv 0) pe_int (fun _ _ => rfl)))
    (pss_cons (ps_set (i := 3) sc.nd rfl (Or.inl rfl) pe_int)
    (pss_cons (ps_if (pt_cmpR o_lt (pv 2) (pe_callB (k_len (K := K) rfl) (by rfl) T.b_len PySem.boot_len (pa_cons (pe_ix (k_ixL (K := K) rfl) (pv 0) pe_int (fun _ _ => rfl)) pa_nil)) (nomark _)) (pss_one (ps_set (i := 3) sc.nd rfl (Or.inl rfl) (pe_callB c_abs (by rfl) T.b_abs (by decide +kernel) (pa_cons (pe_callTy c_int (by rfl) T.b_int (by decide +kernel) (pa_cons (pe_ix (k_ixL (K := K) rfl) (pe_ix (k_ixL (K := K) rfl) (pv 0) pe_int (fun _ _ => rfl)) (pv 2) (fun _ _ => rfl)) pa_nil)) pa_nil)))) (pss_cons (ps_asg (pe_op o_mod (pe_callTy c_int (by rfl) T.b_int (by decide +kernel) (pa_cons (pe_op o_add (pe_op o_add (pe_op o_mul (pe_ix (k_ixL (K := K) rfl) (pv 0) pe_int (fun _ _ => rfl)) pe_int) (pv 2)) pe_int) pa_nil)) pe_int) (pg_sub (pv 0) pe_int set_list))
    (pss_one (ps_set (i := 3) sc.nd rfl (Or.inl rfl) (pe_ix (k_ixL (K := K) rfl) (pv 0) pe_int (fun _ _ => rfl))))))
    (pss_cons (ps_asg (pe_op o_add (pv 2) pe_int) (pg_sub (pv 0) pe_int set_list))
    (pss_cons (ps_if (pt_cmpR o_lt (pv 3) (pe_op o_pow pe_int pe_int) (nomark _)) (pss_cons (ps_set (i := 3) sc.nd rfl (Or.inl rfl) (pe_op o_mod (pe_callTy c_int (by rfl) T.b_int (by decide +kernel) (pa_cons (pe_op o_add (pe_op o_add (pe_op o_mul (pv 3) pe_int) (pe_op o_mul (pv 2) pe_int)) pe_int) pa_nil)) pe_int))
    (pss_cons (ps_set (i := 3) sc.nd rfl (Or.inl rfl) (pe_op o_mod (pe_callTy c_int (by rfl) T.b_int (by decide +kernel) (pa_cons (pe_op o_mul (pv 3) pe_int) pa_nil)) pe_int))
    (pss_one (ps_ret (pe_op o_mod (pe_callTy c_int (by rfl) T.b_int (by decide +kernel) (pa_cons (pv 3) pa_nil)) (pe_callB (c_max rfl) (by rfl) T.b_max (by decide +kernel) (pa_cons (pv 1) (pa_cons pe_int pa_nil)))))))) pss_nil)
    (pss_one (ps_asg (pv 3) (pg_sub (pv 0) pe_int set_list)))))))) pss_nil)
    (pss_cons (ps_set (i := 3) sc.nd rfl (Or.inl rfl) (pe_ix (k_ixL (K := K) rfl) (pv 0) pe_int (fun _ _ => rfl)))
    (pss_cons (ps_asg (pe_op o_div (pv 3) (pe_callB (c_max rfl) (by rfl) T.b_max (by decide +kernel) (pa_cons (pv 1) (pa_cons pe_int pa_nil)))) (pg_sub (pv 0) pe_int set_list))
    (pss_one (ps_ret (pe_op o_mod (pe_callTy c_int (by rfl) T.b_int (by decide +kernel) (pa_cons (pv 3) pa_nil)) (pe_callB (c_max rfl) (by rfl) T.b_max (by decide +kernel) (pa_cons (pv 1) (pa_cons pe_int pa_nil))))))))), ?_⟩
    obtain ⟨ns, p, c, d, nat, p0, c0, d0, ha, ht⟩ := hT
    have k1 : (0 : Int) < (if 1 > m then 1 else m) := by split <;> omega
    have k2 : (1 : Int) < (if 2 > m then 2 else m) ∧ (if 2 > m then 2 else m) < 1073741824000 := by split <;> omega
    have e1 : (if 1 > m then 1 else m) = max m 1 := max_eq m 1
    have fin : ∀ (p' c' d' z : Int), 0 ≤ p' → 0 ≤ c' → 0 ≤ d' → 0 ≤ z → Q (V.int (z.fmod (if 1 > m then 1 else m))) (upd H t (.lst [.ref a, .int p', .int c', .int d'])) := by
      intro p' c' d' z a1 a2 a3 a4
      have f := fmod_lt a4 k1
      refine q _ _ f.1 (by rw [← e1]; exact f.2) ⟨ns, p', c', d', nat, a1, a2, a3, by rw [upd_ne nat]; exact ha, upd_same⟩ (But.upd (But.refl t H))
    have m48 : ∀ z : Int, CMul z 48271 := fun z => .inr ⟨by decide, by decide⟩
    walk_at "go"
    refine l_if (fun c1 => ?_) (fun c1 => ?_)
    · subst c1
      walk_at "go"
      refine l_if (fun c2 => ?_) (fun c2 => ?_)
      · rw [List.length_map] at c2
        obtain ⟨z, hz, _⟩ := atI_map (f := V.int) p0 c2
        have z0 := abs_nn z
        walk_at "go"
        refine l_if (fun c3 => ?_) (fun c3 => ?_)
        · walk_at "go"
          show Q _ _
          exact fin (p + 1) 0 d _ (by omega) (by omega) d0 (fmod_lt (Int.mul_nonneg (fmod_lt (by omega) (by decide)).1 (by decide)) (by decide)).1
        · walk_at "go"
          show Q _ _
          have z1 := fdiv_nn z0 (show (0 : Int) < (if 2 > m then 2 else m) by omega)
          rw [upd_upd, upd_upd]
          exact fin (p + 1) _ d _ (by omega) z1 d0 z0
      · walk_at "go"
        have d1 : 0 ≤ (d * 48271 + p + 1).fmod 2147483647 := (fmod_lt (by omega) (by decide)).1
        refine l_if (fun c3 => ?_) (fun c3 => ?_)
        · walk_at "go"
          show Q _ _
          rw [upd_upd]
          exact fin (p + 1) 0 _ _ (by omega) (by omega) d1 (fmod_lt (Int.mul_nonneg (fmod_lt (by omega) (by decide)).1 (by decide)) (by decide)).1
        · walk_at "go"
          show Q _ _
          have z1 := fdiv_nn d1 (show (0 : Int) < (if 2 > m then 2 else m) by omega)
          rw [upd_upd, upd_upd, upd_upd]
          exact fin (p + 1) _ _ _ (by omega) z1 d1 d1
    · walk_at "go"
      show Q _ _
      exact fin p _ d c p0 (fdiv_nn c0 (by omega)) d0 c0
end
end K00
namespace K00
open PySem PySem.Spec PyProof.Rows L2 Tq
section
variable {P : Program} {w : World} {K : PySem.W.Frag} {mg : Str → Option Value} {base : Heap}
def spText (K : PySem.W.Frag) : Sp := fun vs H Q _ => ∃ (t a : Addr), vs = [.ref t] ∧ Tape H t a ∧ ∀ (z : Str) (H' : Hp), IsText z → Tape H' t a → But t H H' → Q (.str z) H'
def marks : Str := " !#$&'()*+,-./0123456789:;<=>?@ABCDEFGHIJKLMNOPQRSTUVWXYZ[\\]^_`abcdefghijklmnopqrstuvwxyz{|}~"
theorem marks_ok : ∀ c ∈ marks.cps.toList, 32 ≤ c ∧ c ≤ 126 ∧ c ≠ 34 ∧ c ≠ 37 := by decide +kernel
theorem marks_len : marks.cps.toList.length = 93 := by decide +kernel
def twelve : List Str := ["", "v1", "v2", "v3", "c1", "c2", " ", "null", "v01", "V1", "v10", "x"]
theorem twelve_ok : ∀ z ∈ twelve, z.length ≤ 12 ∧ ∀ c ∈ z.cps.toList, 32 ≤ c ∧ c ≤ 126 ∧ c ≠ 34 ∧ c ≠ 37 := by decide +kernel

theorem ok_law_text (D : Ds K mg) (T : Txt mg) : FnOk P w K mg base CX0 2 D.law_text.f D.law_text.fd ["tape"] (spText K) := by
  have sc := sc_law_text
  refine D.law_text.F.ok sc (fun vs H Q E h => ?_) (fun cdv A outer s H vs Q E hr h => ?_)
  · obtain ⟨t, a, rfl, _⟩ := h
    rfl
  · obtain ⟨t, a, rfl, hT, q⟩ := h
    refine ⟨_, (pss_cons (ps_set (i := 1) sc.nd rfl (Or.inl rfl) pe_str)
    (pss_cons (ps_set (i := 2) sc.nd rfl (Or.inl rfl) (pe_call (ok_law_draw D T) hr (by rfl) D.law_draw.g D.law_draw.F.kp D.law_draw.b .nil pass0 (pa_cons (pv 0) (pa_cons pe_int pa_nil))))
    (pss_cons (ps_if (pt_cmpR o_lt (pv 2) pe_int (nomark _)) (pss_one (ps_ret (pe_ix (k_ixL (K := K) rfl) (pe_lst (pa_cons pe_str (pa_cons pe_str (pa_cons pe_str (pa_cons pe_str (pa_cons pe_str (pa_cons pe_str (pa_cons pe_str (pa_cons pe_str (pa_cons pe_str (pa_cons pe_str (pa_cons pe_str (pa_cons pe_str pa_nil))))))))))))) (pv 2) (fun _ _ => rfl)))) pss_nil)
    (pss_cons (ps_set (i := 3) sc.nd rfl (Or.inl rfl) (pe_call (ok_law_draw D T) hr (by rfl) D.law_draw.g D.law_draw.F.kp D.law_draw.b .nil pass0 (pa_cons (pv 0) (pa_cons (pe_op o_mul (pe_op o_mul pe_int pe_int) pe_int) pa_nil))))
    (pss_cons (ps_set (i := 4) sc.nd rfl (Or.inl rfl) (pe_op o_add pe_int (pe_op o_mod (pe_callTy c_int (by rfl) T.b_int (by decide +kernel) (pa_cons (pv 3) pa_nil)) pe_int)))
    (pss_cons (ps_set (i := 5) sc.nd rfl (Or.inl rfl) (pe_op o_mod (pe_callTy c_int (by rfl) T.b_int (by decide +kernel) (pa_cons (pe_op o_div (pv 3) pe_int) pa_nil)) (pv 4)))
    (pss_cons (ps_set (i := 6) sc.nd rfl (Or.inl rfl) (pe_ix ix_str (pv 1) (pe_op o_mod (pe_callTy c_int (by rfl) T.b_int (by decide +kernel) (pa_cons (pe_op o_div (pv 3) pe_int) pa_nil)) pe_int) (fun _ _ => rfl)))
    (pss_one (ps_ret (pe_op o_addS (pe_op o_addS (pe_op op_mulS (pv 6) (pv 5)) (pe_ix ix_str (pv 1) (pe_op o_mod (pe_callTy c_int (by rfl) T.b_int (by decide +kernel) (pa_cons (pe_op o_div (pv 3) pe_int) pa_nil)) pe_int) (fun _ _ => rfl))) (pe_op op_mulS (pv 6) (pe_op o_sub (pe_op o_sub (pv 4) (pv 5)) pe_int)))))))))))), ?_⟩
    walk_at "go"
    refine ⟨t, a, 24, rfl, hT, by decide, fun n H1 n0 n1 T1 B1 => ?_⟩
    walk_at "go"
    refine l_if (fun c1 => ?_) (fun c1 => ?_)
    · walk_at "go"
      refine ⟨by decide, fun p np => ?_⟩
      obtain ⟨z, hz, hz2⟩ := atI_map (f := V.str) (xs := twelve) n0 c1
      have pt := T1.ne np
      refine l_var rfl ?_
      refine l_ixL (sqL upd_same) hz ?_
      show Q _ _
      have o := twelve_ok z (List.mem_of_getElem? hz2)
      exact q z _ ⟨o.1, o.2⟩ (T1.put pt.1 pt.2) (B1.trans (Same.but (new_same np)))
    · walk_at "go"
      refine ⟨t, a, _, rfl, T1, by decide, fun n2 H2 m0 m1 T2 B2 => ?_⟩
      have L := fmod_lt m0 (show (0 : Int) < 12 by decide)
      have P := fmod_lt (fdiv_nn m0 (show (0 : Int) < 12 by decide)) (show (0 : Int) < 1 + n2.fmod 12 by omega)
      have ml : marks.length ≤ sizeLine := by decide
      have i1 := fmod_lt (fdiv_nn m0 (show (0 : Int) < 144 by decide)) (show (0 : Int) < 93 by decide)
      have i2 := fmod_lt (fdiv_nn m0 (show (0 : Int) < 13392 by decide)) (show (0 : Int) < 93 by decide)
      obtain ⟨x1, hx1, hm1⟩ := atI_some (xs := marks.cps.toList) i1.1 (by rw [marks_len]; exact i1.2)
      obtain ⟨x2, hx2, hm2⟩ := atI_some (xs := marks.cps.toList) i2.1 (by rw [marks_len]; exact i2.2)
      have o1 := marks_ok x1 (List.mem_of_getElem? hm1)
      have o2 := marks_ok x2 (List.mem_of_getElem? hm2)
      walk_at "go"
      have e1 := mul1_len x1 ((n2.fdiv 12).fmod (1 + n2.fmod 12))
      have e2 := mul1_len x1 (1 + n2.fmod 12 - (n2.fdiv 12).fmod (1 + n2.fmod 12) - 1)
      refine l_addS (fits (by rw [e1, one_len]; omega)) ?_
      walk_at "go"
      refine l_addS (fits (by rw [app_len, e1, e2, one_len]; omega)) ?_
      show Q _ _
      refine q _ _ ⟨by rw [app_len, app_len, e1, e2, one_len]; omega, fun c hc => ?_⟩ T2 (B1.trans B2)
      rw [app_list, app_list, mul1_list, mul1_list, List.mem_append, List.mem_append] at hc
      rcases hc with (hc | hc) | hc
      · rw [List.eq_of_mem_replicate hc]; exact o1
      · rw [List.mem_singleton.mp hc]; exact o2
      · rw [List.eq_of_mem_replicate hc]; exact o1
end
end K00
namespace K00
open PySem PySem.Spec PyProof.Rows L2 Tq
section
variable {P : Program} {w : World} {K : PySem.W.Frag} {mg : Str → Option Value} {base : Heap}
def spKnown (K : PySem.W.Frag) : Sp := fun vs H Q _ => ∃ (t a : Addr) (m : Int), vs = [.ref t, .int m] ∧ Tape H t a ∧ 0 ≤ m ∧ m ≤ 40 ∧
  ∀ (xs : List Str) (p : Addr) (H' : Hp), But t H H' → H p = none → H' p = some (.tup (xs.map V.str)) → Tape H' t a → Up xs → (∀ z ∈ xs, IsText z) → xs.length ≤ m.toNat → Q (.ref p) H'

theorem ok_law_known (D : Ds K mg) (T : Txt mg) : FnOk P w K mg base CX0 3 D.law_known.f D.law_known.fd ["tape", "most"] (spKnown K) := by
  have sc := sc_law_known
  refine D.law_known.F.ok sc (fun vs H Q E h => ?_) (fun cdv A outer s H vs Q E hr h => ?_)
  · obtain ⟨t, a, m, rfl, _⟩ := h
    rfl
  · obtain ⟨t, a, m, rfl, hT, m0, m1, q⟩ := h
    refine ⟨_, (pss_cons (ps_set (i := 2) sc.nd rfl (Or.inl rfl) (pe_lst pa_nil))
    (pss_cons (ps_for PassesOwn.never rfl (pi_range1 (by rfl) T.b_range (pa_cons (pe_call (ok_law_draw D T) (hr.mono (by decide)) (by rfl) D.law_draw.g D.law_draw.F.kp D.law_draw.b .nil pass0 (pa_cons (pv 0) (pa_cons (pe_op o_add (pv 1) pe_int) pa_nil))) pa_nil)) (pg_name (i := 3) sc.nd rfl (Or.inl rfl)) (pss_cons (ps_set (i := 4) sc.nd rfl (Or.inl rfl) (pe_call (ok_law_draw D T) (hr.mono (by decide)) (by rfl) D.law_draw.g D.law_draw.F.kp D.law_draw.b .nil pass0 (pa_cons (pv 0) (pa_cons pe_int pa_nil))))
    (pss_cons (ps_set (i := 5) sc.nd rfl (Or.inl rfl) (pe_op o_addS (pe_ix (k_ixL (K := K) rfl) (pe_lst (pa_cons pe_str (pa_cons pe_str pa_nil))) (pe_op o_mod (pe_callTy c_int (by rfl) T.b_int (by decide +kernel) (pa_cons (pv 4) pa_nil)) pe_int) (fun _ _ => rfl)) (pe_callTy c_str (by rfl) T.b_str (by decide +kernel) (pa_cons (pe_op o_add pe_int (pe_callTy c_int (by rfl) T.b_int (by decide +kernel) (pa_cons (pe_op o_div (pv 4) pe_int) pa_nil))) pa_nil))))
    (pss_cons (ps_if (pt_cmpR op_eq (pe_op o_mod (pe_callTy c_int (by rfl) T.b_int (by decide +kernel) (pa_cons (pe_op o_div (pv 4) pe_int) pa_nil)) pe_int) pe_int (nomark _)) (pss_one (ps_set (i := 5) sc.nd rfl (Or.inl rfl) (pe_call (ok_law_text D T) hr (by rfl) D.law_text.g D.law_text.F.kp D.law_text.b .nil pass0 (pa_cons (pv 0) pa_nil)))) pss_nil)
    (pss_one (ps_if (pt_cmpR (k_notIn (K := K) rfl) (pv 5) (pv 2) (by rfl)) (pss_one (ps_expr (pe_bm PySem.F.plainAttrs_list PySem.F.slot_list_append PySem.F.type_list_append mt_append (pv 2) (pa_cons (pv 5) pa_nil)))) pss_nil))))))
    (pss_one (ps_ret (pe_callTy (k_tuple (K := K) rfl) (by rfl) T.b_tuple (by decide +kernel) (pa_cons (pe_callB (k_sortedL (K := K) rfl) (by rfl) T.b_sorted (by decide +kernel) (pa_cons (pv 2) pa_nil)) pa_nil)))))), ?_⟩
    walk_at "go"
    refine ⟨Nat.zero_le _, fun d nd => ?_⟩
    walk_at "go"
    have dt := hT.ne nd
    refine ⟨t, a, _, rfl, hT.put dt.1 dt.2, by omega, fun n H1 n0 n1 T1 B1 => ?_⟩
    have hd1 : H1 d = some (.lst (([] : List Str).map V.str)) := B1 d _ dt.1 upd_same
    refine ⟨n, rfl, by omega, by omega, ?_⟩
    have nm : n.toNat ≤ m.toNat := by omega
    generalize n.toNat = N at nm
    refine for_range (fun i σ H' => ∃ (xs : List Str) (y1 y2 y3 : Option V), σ = [some (.ref t), some (.int m), some (.ref d), y1, y2, y3] ∧ xs.length ≤ i ∧ (∀ z ∈ xs, IsText z) ∧ xs.Nodup ∧ H' d = some (.lst (xs.map V.str)) ∧ Tape H' t a ∧ But t H H')
      ⟨[], none, none, none, rfl, Nat.le_refl _, by simp, List.nodup_nil, hd1, T1, (But.new (But.refl t H) nd).trans B1⟩ ?_ ?_
    · rintro i σ H2 hi ⟨xs, y1, y2, y3, rfl, xl, xt, xn, hd, T2, B2⟩
      walk_at "go"
      refine ⟨t, a, 56, rfl, T2, by decide, fun n2 H3 k0 k1 T3 B3 => ?_⟩
      have hd3 := B3 d _ dt.1 hd
      walk_at "go"
      refine ⟨(by show 2 ≤ sizeLine; decide), fun p np => ?_⟩
      have r2 := fmod_lt k0 (show (0 : Int) < 2 by decide)
      have q4 := fdiv_nn k0 (show (0 : Int) < 4 by decide)
      have q4' : n2.fdiv 4 ≤ 56 := by
        rw [Int.fdiv_eq_ediv_of_nonneg _ (by decide)]
        omega
      obtain ⟨z, hz, hz2⟩ := atI_map (f := V.str) (xs := ["v", "c"]) r2.1 r2.2
      have zo : z = "v" ∨ z = "c" := by simpa using List.mem_of_getElem? hz2
      have pt := T3.ne np
      have T4 : Tape (L2.upd H3 p (.lst [.str "v", .str "c"])) t a := T3.put pt.1 pt.2
      have hd4 : (L2.upd H3 p (.lst [.str "v", .str "c"])) d = some (.lst (xs.map V.str)) := by
        rw [upd_ne (ne_of_none hd3 np)]; exact hd3
      have B4 : But t H (L2.upd H3 p (.lst [.str "v", .str "c"])) := (B2.trans B3).trans (Same.but (new_same np))
      walk_at "go"
      generalize L2.upd H3 p (.lst [.str "v", .str "c"]) = H4 at T4 hd4 B4 ⊢
      have k1 : (1 + n2.fdiv 4) = (((n2.fdiv 4).toNat + 1 : Nat) : Int) := by omega
      refine l_str (log_small (by omega) (by omega)) ?_
      walk_at "go"
      rw [k1]
      have ln : (Str.ofString (toString (((n2.fdiv 4).toNat + 1 : Nat) : Int))).length ≤ 5 := numS_len (k := (n2.fdiv 4).toNat + 1) (by omega)
      have z1 : z.length = 1 := by rcases zo with e | e <;> rw [e] <;> rfl
      refine l_addS (fits (by omega)) ?_
      have ln2 : (numS ((n2.fdiv 4).toNat + 1)).length ≤ 5 := ln
      have hv : ∀ c ∈ (Str.ofString "v").cps.toList, c = 118 := by decide +kernel
      have hc' : ∀ c ∈ (Str.ofString "c").cps.toList, c = 99 := by decide +kernel
      have tx : IsText (z ++ numS ((n2.fdiv 4).toNat + 1)) := by
        refine ⟨by rw [app_len]; omega, fun c hc => ?_⟩
        rw [app_list, List.mem_append] at hc
        rcases hc with hc | hc
        · rcases zo with e | e
          · rw [e] at hc
            have := hv c hc
            omega
          · rw [e] at hc
            have := hc' c hc
            omega
        · have := numS_ok _ c hc
          omega
      generalize z ++ numS ((n2.fdiv 4).toNat + 1) = w1 at tx ⊢
      have room : (xs.map V.str).length < sizeLine := fits_lt (by rw [List.length_map]; omega)
      refine l_gname ?_
      with_reducible refine' l_cut (fun σ' H' => ∃ (u : Str) (y1 y2 : Option V), σ' = [some (.ref t), some (.int m), some (.ref d), y1, y2, some (.str u)] ∧ IsText u ∧ Tape H' t a ∧ H' d = some (.lst (xs.map V.str)) ∧ But t H H') (fun N hN => ?_) ?_
      · walk_at "go"
        refine l_if (fun c1 => ?_) (fun c1 => ?_)
        · walk_at "go"
          refine ⟨t, a, rfl, T4, fun u H5 tu T5 B5 => ?_⟩
          walk_at "go"
          exact hN _ _ ⟨u, _, _, rfl, tu, T5, B5 d _ dt.1 hd4, B4.trans B5⟩
        · walk_at "go"
          exact hN _ _ ⟨w1, _, _, rfl, tx, T4, hd4, B4⟩
      · rintro σ' H5 ⟨u, y1, y2, rfl, tu, T5, hd5, B5⟩
        walk_at "go"
        refine l_in (.inl (sqL hd5)) ?_
        walk_at "go"
        refine l_ifN (fun c2 => ?_) (fun c2 => ?_)
        · walk_at "go"
          refine ⟨xs ++ [u], _, _, _, rfl, by rw [List.length_append, List.length_singleton]; omega, ?_, ?_, by rw [upd_same, List.map_append]; rfl, T5.put dt.1 dt.2, ?_⟩
          · intro y hy
            rcases List.mem_append.mp hy with hy | hy
            · exact xt y hy
            · rw [List.mem_singleton.mp hy]; exact tu
          · rw [List.nodup_append]
            exact ⟨xn, by simp, fun y hy w hw e => c2 (by rw [List.mem_singleton.mp hw] at e; exact e ▸ hy)⟩
          · intro b o nb hb
            rw [upd_ne (ne_of_none hb nd)]
            exact B5 b o nb hb
        · walk_at "go"
          exact ⟨xs, _, _, _, rfl, by omega, xt, xn, hd5, T5, B5⟩
    · rintro σ H2 ⟨xs, y1, y2, y3, rfl, xl, xt, xn, hd, T2, B2⟩
      walk_at "go"
      refine ⟨d, xs, rfl, sqL hd, by omega, fun ys p pm so np => ?_⟩
      walk_at "go"
      refine l_tupL (sqL upd_same) fun r nr => ?_
      show Q _ _
      have pt := T2.ne np
      have T3 : Tape (L2.upd H2 p (.lst (ys.map V.str))) t a := T2.put pt.1 pt.2
      have rt := T3.ne nr
      have B3 := (B2.trans (Same.but (new_same (o := .lst (ys.map V.str)) np))).trans (Same.but (new_same (o := .tup (ys.map V.str)) nr))
      have hr0 : H r = none := by
        cases e : H r with
        | none => rfl
        | some o =>
          have e2 := (B2.trans (Same.but (new_same (o := .lst (ys.map V.str)) np))) r o rt.1 e
          rw [e2] at nr; cases nr
      exact q ys r _ B3 hr0 upd_same (T3.put rt.1 rt.2) (up_of so (pm.nodup_iff.mpr xn)) (fun z hz => xt z (pm.mem_iff.mp hz)) (by rw [pm.length_eq]; omega)
end
end K00
namespace K00
open PySem PySem.Spec PyProof.Rows L2 Tq
section
variable {P : Program} {w : World} {K : PySem.W.Frag} {mg : Str → Option Value} {base : Heap}

theorem ok_law_first (D : Ds K mg) (T : Txt mg) : FnOk P w K mg base CX0 1 D.law_first.f D.law_first.fd ["letter", "many", "constants"] (spNum K) := by
  have sc := sc_law_first
  refine D.law_first.F.ok sc (fun vs H Q E h => ?_) (fun cdv A outer s H vs Q E hr h => ?_)
  · obtain ⟨z, n, p0, xs, rfl, _⟩ := h
    rfl
  · obtain ⟨z, n, p0, xs, rfl, z12, n0, n1, hS, xl, q⟩ := h
    refine ⟨_, (pss_cons (ps_set (i := 3) sc.nd rfl (Or.inl rfl) (pe_lst pa_nil))
    (pss_cons (ps_for PassesOwn.never rfl (pi_range2 (by rfl) T.b_range (pa_cons pe_int (pa_cons (pe_op o_add (pe_op o_add (pv 1) (pe_callB (k_len (K := K) rfl) (by rfl) T.b_len PySem.boot_len (pa_cons (pv 2) pa_nil))) pe_int) pa_nil))) (pg_name (i := 4) sc.nd rfl (Or.inl rfl)) (pss_cons (ps_set (i := 5) sc.nd rfl (Or.inl rfl) (pe_op o_addS (pv 0) (pe_callTy c_str (by rfl) T.b_str (by decide +kernel) (pa_cons (pv 4) pa_nil))))
    (pss_one (ps_if (PW.pt (pw_and (pt_cmpR (k_notIn (K := K) rfl) (pv 5) (pv 2) (by rfl)) (pw_and1 (pt_cmpR o_lt (pe_callB (k_len (K := K) rfl) (by rfl) T.b_len PySem.boot_len (pa_cons (pv 3) pa_nil)) (pv 1) (nomark _))))) (pss_one (ps_expr (pe_bm PySem.F.plainAttrs_list PySem.F.slot_list_append PySem.F.type_list_append mt_append (pv 3) (pa_cons (pv 5) pa_nil)))) pss_nil))))
    (pss_one (ps_ret (pe_callTy (k_tuple (K := K) rfl) (by rfl) T.b_tuple (by decide +kernel) (pa_cons (pv 3) pa_nil)))))), ?_⟩
    walk_at "go"
    refine ⟨Nat.zero_le _, fun d nd => ?_⟩
    have hS1 := (new_same (o := .lst []) nd).seqT hS
    walk_at "go"
    have lm : (xs.map V.str).length = xs.length := List.length_map ..
    refine ⟨1, n + ↑(xs.map V.str).length + 1, rfl, ⟨by decide, by decide, by omega, by omega⟩, ?_⟩
    rw [lm, show (n + (xs.length : Int) + 1 - 1).toNat = n.toNat + xs.length by omega]
    refine for_range (fun i σ H' => ∃ (y1 y2 : Option V), σ = [some (.str z), some (.int n), some (.ref p0), some (.ref d), y1, y2] ∧ Same H H' ∧ H' d = some (.lst (((named z xs i).take n.toNat).map V.str))) ⟨none, none, rfl, new_same nd, by rw [upd_same]; simp [named]⟩ ?_ ?_
    · rintro i σ H' hi ⟨y1, y2, rfl, sm, hd⟩
      have k1 : (1 + (i : Int)) = ((i + 1 : Nat) : Int) := by omega
      have ln : (Str.ofString (toString ((i + 1 : Nat) : Int))).length ≤ 5 := numS_len (k := i + 1) (by omega)
      walk_at "go"
      refine l_str (log_small (by omega) (by omega)) ?_
      walk_at "go"
      rw [k1]
      refine l_addS (fits (by omega)) ?_
      walk_at "go"
      rw [nm_def]
      refine l_in (.inr (sm.seqT hS)) ?_
      walk_at "go"
      have ts := take_step z xs n.toNat i
      have lt : (((named z xs i).take n.toNat).map V.str).length = ((named z xs i).take n.toNat).length := List.length_map ..
      refine l_ifN (fun c1 => ?_) (fun c1 => ?_)
      · walk_at "go"
        refine l_if (fun c2 => ?_) (fun c2 => ?_)
        · rw [lt] at c2
          rw [if_pos ⟨c1, by omega⟩] at ts
          have room : (((named z xs i).take n.toNat).map V.str).length < sizeLine := fits_lt (by rw [lt]; omega)
          walk_at "go"
          refine ⟨_, _, rfl, ?_, by rw [upd_same, ts, List.map_append]; rfl⟩
          intro b o hb
          rw [upd_ne (ne_of_none hb nd)]
          exact sm b o hb
        · rw [lt] at c2
          rw [if_neg (fun h => c2 (by have := h.2; omega))] at ts
          walk_at "go"
          exact ⟨_, _, rfl, sm, by rw [ts]; exact hd⟩
      · rw [if_neg (fun h => h.1 c1)] at ts
        walk_at "go"
        exact ⟨_, _, rfl, sm, by rw [ts]; exact hd⟩
    · rintro σ H' ⟨y1, y2, rfl, sm, hd⟩
      walk_at "go"
      refine l_tupL (sqL hd) fun p np => ?_
      show Q _ _
      exact q p _ (sm.trans (new_same np)) (sm.free np) upd_same
end
end K00
namespace K00
open PySem PySem.Spec PyProof.Rows L2 Tq
section
variable {P : Program} {w : World} {K : PySem.W.Frag} {mg : Str → Option Value} {base : Heap}
def spLaw (K : PySem.W.Frag) : Sp := fun vs H Q _ => ∃ (a : Addr) (ns : List Int), vs = [.ref a] ∧ SqL K H a (ns.map V.int) ∧ ns.length ≤ 63 ∧ ∀ H', Q (.bl true) H'

theorem ok_law (D : Ds K mg) (T : Txt mg) : FnOk P w K mg base CX0 4 D.law.f D.law.fd ["script"] (spLaw K) := by
  have sc := sc_law
  refine D.law.F.ok sc (fun vs H Q E h => ?_) (fun cdv A outer s H vs Q E hr h => ?_)
  · obtain ⟨s0, ns, rfl, _⟩ := h
    rfl
  · obtain ⟨s0, ns, rfl, hS, few, q⟩ := h
    refine ⟨_, (pss_cons (ps_set (i := 1) sc.nd rfl (Or.inl rfl) (pe_call (ok_law_tape D T) (hr.mono (by decide)) (by rfl) D.law_tape.g D.law_tape.F.kp D.law_tape.b .nil pass0 (pa_cons (pv 0) pa_nil)))
    (pss_cons (ps_set (i := 2) sc.nd rfl (Or.inl rfl) (pe_call (ok_law_draw D T) (hr.mono (by decide)) (by rfl) D.law_draw.g D.law_draw.F.kp D.law_draw.b .nil pass0 (pa_cons (pv 1) (pa_cons pe_int pa_nil))))
    (pss_cons (ps_if (pt_cmpR op_eq (pe_call (ok_law_draw D T) (hr.mono (by decide)) (by rfl) D.law_draw.g D.law_draw.F.kp D.law_draw.b .nil pass0 (pa_cons (pv 1) (pa_cons pe_int pa_nil))) pe_int (nomark _)) (pss_one (ps_set (i := 2) sc.nd rfl (Or.inl rfl) (pe_op o_add pe_int (pe_call (ok_law_draw D T) (hr.mono (by decide)) (by rfl) D.law_draw.g D.law_draw.F.kp D.law_draw.b .nil pass0 (pa_cons (pv 1) (pa_cons pe_int pa_nil)))))) pss_nil)
    (pss_cons (ps_set (i := 3) sc.nd rfl (Or.inl rfl) (pe_call (ok_law_known D T) hr (by rfl) D.law_known.g D.law_known.F.kp D.law_known.b .nil pass0 (pa_cons (pv 1) (pa_cons pe_int pa_nil))))
    (pss_cons (ps_if (pt_cmpR (k_neD (K := K) rfl hr.units) (pe_callN (ok_sample_texts D T) (hr.mono (by decide)) (by rfl) D.sample_texts.g D.sample_texts.F.kp D.sample_texts.kb pass0 (pa_cons (pv 2) pa_nil) (pk_cons (pv 3) pk_nil)) (pe_call (ok_law_first D T) (hr.mono (by decide)) (by rfl) D.law_first.g D.law_first.F.kp D.law_first.b .nil pass0 (pa_cons pe_str (pa_cons (pv 2) (pa_cons (pv 3) pa_nil)))) (nomark _)) (pss_one (ps_ret pe_bl)) pss_nil)
    (pss_cons (ps_if (pt_cmpR (k_neD (K := K) rfl hr.units) (pe_callN (ok_spare_texts D T) (hr.mono (by decide)) (by rfl) D.spare_texts.g D.spare_texts.F.kp D.spare_texts.kb pass0 (pa_cons (pv 2) pa_nil) (pk_cons (pv 3) pk_nil)) (pe_call (ok_law_first D T) (hr.mono (by decide)) (by rfl) D.law_first.g D.law_first.F.kp D.law_first.b .nil pass0 (pa_cons pe_str (pa_cons (pv 2) (pa_cons (pv 3) pa_nil)))) (nomark _)) (pss_one (ps_ret pe_bl)) pss_nil)
    (pss_one (ps_ret (pe_and (pe_cmpR (k_eqD (K := K) rfl hr.units) (pe_call (ok_sample_texts D T) (hr.mono (by decide)) (by rfl) D.sample_texts.g D.sample_texts.F.kp D.sample_texts.b.choose_spec.2 D.sample_texts.b.choose_spec.1 pass0 (pa_cons (pv 2) pa_nil)) (pe_call (ok_law_first D T) (hr.mono (by decide)) (by rfl) D.law_first.g D.law_first.F.kp D.law_first.b .nil pass0 (pa_cons pe_str (pa_cons (pv 2) (pa_cons (pe_tup pa_nil) pa_nil)))) (nomark _)) (pe_one (pe_cmpR (k_eqD (K := K) rfl hr.units) (pe_call (ok_spare_texts D T) (hr.mono (by decide)) (by rfl) D.spare_texts.g D.spare_texts.F.kp D.spare_texts.b.choose_spec.2 D.spare_texts.b.choose_spec.1 pass0 (pa_cons (pv 2) pa_nil)) (pe_call (ok_law_first D T) (hr.mono (by decide)) (by rfl) D.law_first.g D.law_first.F.kp D.law_first.b .nil pass0 (pa_cons pe_str (pa_cons (pv 2) (pa_cons (pe_tup pa_nil) pa_nil)))) (nomark _)))))))))))), ?_⟩
    walk_at "go"
    refine ⟨s0, ns, rfl, hS, few, fun t a H1 _ T1 _ _ => ?_⟩
    walk_at "go"
    refine ⟨t, a, 13, rfl, T1, by decide, fun n H2 n0 n1 T2 _ => ?_⟩
    refine l_gname ?_
    with_reducible refine' l_cut (fun σ' H' => ∃ m : Int, σ' = [some (.ref s0), some (.ref t), some (.int m), none] ∧ 0 ≤ m ∧ m ≤ 300 ∧ Tape H' t a) (fun N hN => ?_) ?_
    · walk_at "go"
      refine ⟨t, a, 8, rfl, T2, by decide, fun k H3 k0 k1 T3 _ => ?_⟩
      walk_at "go"
      refine l_if (fun c1 => ?_) (fun c1 => ?_)
      · walk_at "go"
        refine ⟨t, a, 11, rfl, T3, by decide, fun j H4 j0 j1 T4 _ => ?_⟩
        walk_at "go"
        exact hN _ _ ⟨_, rfl, by omega, by omega, T4⟩
      · walk_at "go"
        exact hN _ _ ⟨_, rfl, by omega, by omega, T3⟩
    rintro σ' H3 ⟨m, rfl, m0, m1, T3⟩
    walk_at "go"
    refine ⟨t, a, 12, rfl, T3, by decide, by decide, fun xs p0 H4 _ _ hx _ _ xt xl => ?_⟩
    have ok1 : ∀ l : Str, PyData.strOk l = true → ∀ ys : List Str, ∀ z ∈ firstN l m.toNat ys, PyData.strOk z = true := fun l hl ys z hz => by
      obtain ⟨k, rfl, _⟩ := firstN_ok z hz
      exact strOk_nm hl k
    have okv := ok1 "v" (by decide +kernel)
    have okc := ok1 "c" (by decide +kernel)
    walk_at "go"
    refine ⟨rfl, rfl, m, p0, xs, rfl, m0, by omega, sqT hx, by omega, fun q1 H5 S5 n5 h5 => ?_⟩
    walk_at "go"
    refine ⟨"v", m, p0, xs, rfl, by decide, m0, by omega, sqT (S5 _ _ hx), by omega, fun q2 H6 S6 n6 h6 => ?_⟩
    walk_at "go"
    refine l_neT (sqT (S6 _ _ h5)) (sqT h6) (okv xs) (okv xs) ?_
    rw [decide_eq_true rfl]
    walk_at "go"
    have hx6 := S6 _ _ (S5 _ _ hx)
    refine ⟨rfl, rfl, m, p0, xs, rfl, m0, by omega, sqT hx6, by omega, fun q3 H7 S7 n7 h7 => ?_⟩
    walk_at "go"
    refine ⟨"c", m, p0, xs, rfl, by decide, m0, by omega, sqT (S7 _ _ hx6), by omega, fun q4 H8 S8 n8 h8 => ?_⟩
    walk_at "go"
    refine l_neT (sqT (S8 _ _ h7)) (sqT h8) (okc xs) (okc xs) ?_
    rw [decide_eq_true rfl]
    walk_at "go"
    refine ⟨m, _, [], rfl, m0, by omega, D.sample_texts.et _, by decide, fun q5 H9 S9 n9 h9 => ?_⟩
    walk_at "go"
    refine ⟨Nat.zero_le _, fun e1 ne1 => ?_⟩
    walk_at "go"
    have h9' := new_same (o := .tup []) ne1 _ _ h9
    refine ⟨"v", m, e1, [], rfl, by decide, m0, by omega, sqT upd_same, by decide, fun q6 HA SA nA hA => ?_⟩
    walk_at "go"
    refine l_eqT (sqT (SA _ _ h9')) (sqT hA) (okv []) (okv []) ?_
    rw [decide_eq_true rfl]
    walk_at "go"
    refine ⟨m, _, [], rfl, m0, by omega, D.spare_texts.et _, by decide, fun q7 HB SB nB hB => ?_⟩
    walk_at "go"
    refine ⟨Nat.zero_le _, fun e2 ne2 => ?_⟩
    walk_at "go"
    have hB' := new_same (o := .tup []) ne2 _ _ hB
    refine ⟨"c", m, e2, [], rfl, by decide, m0, by omega, sqT upd_same, by decide, fun q8 HC SC nC hC => ?_⟩
    walk_at "go"
    refine l_eqT (sqT (SC _ _ hB')) (sqT hC) (okc []) (okc []) ?_
    rw [decide_eq_true rfl]
    exact q _
end
end K00
namespace K00
open PySem PySem.Spec PyProof.Rows L2 Tq
theorem all_mk {l : PySem.W.OpenLaw} {w : World} {K : PySem.W.Frag} {h : Heap} {mg : Str → Option Value} {fa : Addr} (X : K.In h) (G : h.Ns mainGlobals mg) (hfa : mg "law" = some (.ref fa))
    {f_sample_texts f_spare_texts f_numbered_texts f_law_tape f_law_draw f_law_text f_law_known f_law_first f_law : Addr} {od_sample_texts od_spare_texts od_numbered_texts od_law_tape od_law_draw od_law_text od_law_known od_law_first od_law an_sample_texts an_spare_texts an_numbered_texts an_law_tape an_law_draw an_law_text an_law_known an_law_first an_law : Option Addr} {sl_sample_texts sl_spare_texts sl_numbered_texts sl_law_tape sl_law_draw sl_law_text sl_law_known sl_law_first sl_law : Array (Option Value)} {oc_sample_texts dc_sample_texts pm_sample_texts cd_sample_texts ct_sample_texts oc_spare_texts dc_spare_texts pm_spare_texts cd_spare_texts ct_spare_texts oc_numbered_texts kV_numbered_texts dc_numbered_texts pm_numbered_texts cd_numbered_texts ct_numbered_texts oc_law_tape kV_law_tape dc_law_tape pm_law_tape cd_law_tape ct_law_tape oc_law_draw kV_law_draw dc_law_draw pm_law_draw cd_law_draw ct_law_draw oc_law_text kV_law_text dc_law_text pm_law_text cd_law_text ct_law_text oc_law_known kV_law_known dc_law_known pm_law_known cd_law_known ct_law_known oc_law_first kV_law_first dc_law_first pm_law_first cd_law_first ct_law_first oc_law kV_law dc_law pm_law cd_law ct_law : Value} {kd_sample_texts ke_sample_texts kd_spare_texts ke_spare_texts : Addr} {kn_sample_texts kn_spare_texts : Nat} {ko_sample_texts ko_spare_texts : Obj}
    (a_sample_texts : PySem.W.nsIn K mainGlobals "sample_texts" = some (some (.ref f_sample_texts)))
    (l_sample_texts : K.lookup f_sample_texts = some ⟨oc_sample_texts, od_sample_texts, .func (PySem.W.fnOf "sample_texts" "sample_texts" (defArgs s_sample_texts) (defBody s_sample_texts) (defScope s_sample_texts) .none (.ref kd_sample_texts) dc_sample_texts pm_sample_texts an_sample_texts cd_sample_texts ct_sample_texts), sl_sample_texts⟩)
    (c_sample_texts : PySem.W.codeIn K cd_sample_texts "sample_texts" = true) (k_sample_texts : PySem.W.keepIn K (.ref f_sample_texts) = true)
    (n_sample_texts : PySem.W.nsIn K kd_sample_texts "but" = some (some (.ref ke_sample_texts))) (o_sample_texts : K.lookup ke_sample_texts = some ko_sample_texts) (t_sample_texts : ko_sample_texts.cls = .type "tuple") (d_sample_texts : ko_sample_texts.data = .seq #[] kn_sample_texts)
    (a_spare_texts : PySem.W.nsIn K mainGlobals "spare_texts" = some (some (.ref f_spare_texts)))
    (l_spare_texts : K.lookup f_spare_texts = some ⟨oc_spare_texts, od_spare_texts, .func (PySem.W.fnOf "spare_texts" "spare_texts" (defArgs s_spare_texts) (defBody s_spare_texts) (defScope s_spare_texts) .none (.ref kd_spare_texts) dc_spare_texts pm_spare_texts an_spare_texts cd_spare_texts ct_spare_texts), sl_spare_texts⟩)
    (c_spare_texts : PySem.W.codeIn K cd_spare_texts "spare_texts" = true) (k_spare_texts : PySem.W.keepIn K (.ref f_spare_texts) = true)
    (n_spare_texts : PySem.W.nsIn K kd_spare_texts "but" = some (some (.ref ke_spare_texts))) (o_spare_texts : K.lookup ke_spare_texts = some ko_spare_texts) (t_spare_texts : ko_spare_texts.cls = .type "tuple") (d_spare_texts : ko_spare_texts.data = .seq #[] kn_spare_texts)
    (a_numbered_texts : PySem.W.nsIn K mainGlobals "numbered_texts" = some (some (.ref f_numbered_texts)))
    (l_numbered_texts : K.lookup f_numbered_texts = some ⟨oc_numbered_texts, od_numbered_texts, .func (PySem.W.fnOf "numbered_texts" "numbered_texts" (defArgs s_numbered_texts) (defBody s_numbered_texts) (defScope s_numbered_texts) .none kV_numbered_texts dc_numbered_texts pm_numbered_texts an_numbered_texts cd_numbered_texts ct_numbered_texts), sl_numbered_texts⟩)
    (c_numbered_texts : PySem.W.codeIn K cd_numbered_texts "numbered_texts" = true) (k_numbered_texts : PySem.W.keepIn K (.ref f_numbered_texts) = true)
    (a_law_tape : PySem.W.nsIn K mainGlobals "_law_tape" = some (some (.ref f_law_tape)))
    (l_law_tape : K.lookup f_law_tape = some ⟨oc_law_tape, od_law_tape, .func (PySem.W.fnOf "_law_tape" "_law_tape" (defArgs s_law_tape) (defBody s_law_tape) (defScope s_law_tape) .none kV_law_tape dc_law_tape pm_law_tape an_law_tape cd_law_tape ct_law_tape), sl_law_tape⟩)
    (c_law_tape : PySem.W.codeIn K cd_law_tape "_law_tape" = true) (k_law_tape : PySem.W.keepIn K (.ref f_law_tape) = true)
    (a_law_draw : PySem.W.nsIn K mainGlobals "_law_draw" = some (some (.ref f_law_draw)))
    (l_law_draw : K.lookup f_law_draw = some ⟨oc_law_draw, od_law_draw, .func (PySem.W.fnOf "_law_draw" "_law_draw" (defArgs s_law_draw) (defBody s_law_draw) (defScope s_law_draw) .none kV_law_draw dc_law_draw pm_law_draw an_law_draw cd_law_draw ct_law_draw), sl_law_draw⟩)
    (c_law_draw : PySem.W.codeIn K cd_law_draw "_law_draw" = true) (k_law_draw : PySem.W.keepIn K (.ref f_law_draw) = true)
    (a_law_text : PySem.W.nsIn K mainGlobals "_law_text" = some (some (.ref f_law_text)))
    (l_law_text : K.lookup f_law_text = some ⟨oc_law_text, od_law_text, .func (PySem.W.fnOf "_law_text" "_law_text" (defArgs s_law_text) (defBody s_law_text) (defScope s_law_text) .none kV_law_text dc_law_text pm_law_text an_law_text cd_law_text ct_law_text), sl_law_text⟩)
    (c_law_text : PySem.W.codeIn K cd_law_text "_law_text" = true) (k_law_text : PySem.W.keepIn K (.ref f_law_text) = true)
    (a_law_known : PySem.W.nsIn K mainGlobals "_law_known" = some (some (.ref f_law_known)))
    (l_law_known : K.lookup f_law_known = some ⟨oc_law_known, od_law_known, .func (PySem.W.fnOf "_law_known" "_law_known" (defArgs s_law_known) (defBody s_law_known) (defScope s_law_known) .none kV_law_known dc_law_known pm_law_known an_law_known cd_law_known ct_law_known), sl_law_known⟩)
    (c_law_known : PySem.W.codeIn K cd_law_known "_law_known" = true) (k_law_known : PySem.W.keepIn K (.ref f_law_known) = true)
    (a_law_first : PySem.W.nsIn K mainGlobals "_law_first" = some (some (.ref f_law_first)))
    (l_law_first : K.lookup f_law_first = some ⟨oc_law_first, od_law_first, .func (PySem.W.fnOf "_law_first" "_law_first" (defArgs s_law_first) (defBody s_law_first) (defScope s_law_first) .none kV_law_first dc_law_first pm_law_first an_law_first cd_law_first ct_law_first), sl_law_first⟩)
    (c_law_first : PySem.W.codeIn K cd_law_first "_law_first" = true) (k_law_first : PySem.W.keepIn K (.ref f_law_first) = true)
    (a_law : PySem.W.nsIn K mainGlobals "law" = some (some (.ref f_law)))
    (l_law : K.lookup f_law = some ⟨oc_law, od_law, .func (PySem.W.fnOf "law" "law" (defArgs s_law) (defBody s_law) (defScope s_law) .none kV_law dc_law pm_law an_law cd_law ct_law), sl_law⟩)
    (c_law : PySem.W.codeIn K cd_law "law" = true) (k_law : PySem.W.keepIn K (.ref f_law) = true)
    (z_abs : PySem.W.nsIn K mainGlobals "abs" = some none)
    (z_int : PySem.W.nsIn K mainGlobals "int" = some none)
    (z_len : PySem.W.nsIn K mainGlobals "len" = some none)
    (z_list : PySem.W.nsIn K mainGlobals "list" = some none)
    (z_max : PySem.W.nsIn K mainGlobals "max" = some none)
    (z_range : PySem.W.nsIn K mainGlobals "range" = some none)
    (z_set : PySem.W.nsIn K mainGlobals "set" = some none)
    (z_sorted : PySem.W.nsIn K mainGlobals "sorted" = some none)
    (z_str : PySem.W.nsIn K mainGlobals "str" = some none)
    (z_tuple : PySem.W.nsIn K mainGlobals "tuple" = some none) :
    ∃ fd : FuncData, (∀ (s : Shared) (v : Value), BindsTo s fd ⟨[v], []⟩ [("script", v)]) ∧ ∀ base : Heap, K.In base → base.Ns mainGlobals mg → FnOk l.prog w K mg base CX0 4 fa fd ["script"] (spLaw K) := by
  have e := hfa.symm.trans (PySem.W.mg_of X G a_law)
  cases e
  have T : Txt mg := ⟨PySem.W.mg_none_of X G z_abs, PySem.W.mg_none_of X G z_int, PySem.W.mg_none_of X G z_len, PySem.W.mg_none_of X G z_list, PySem.W.mg_none_of X G z_max, PySem.W.mg_none_of X G z_range, PySem.W.mg_none_of X G z_set, PySem.W.mg_none_of X G z_sorted, PySem.W.mg_none_of X G z_str, PySem.W.mg_none_of X G z_tuple⟩
  let D_sample_texts : Dk K mg "sample_texts" s_sample_texts "many" "but" := dk_mk X G a_sample_texts l_sample_texts c_sample_texts k_sample_texts n_sample_texts o_sample_texts t_sample_texts d_sample_texts (fun _ _ _ _ _ _ us ks h1 h2 => match us, ks, h1, h2 with | [_], [_], _, _ => ⟨_, _, _, _, _, _, rfl, rfl, rfl⟩) (fun _ _ _ _ _ _ us ws h1 h2 => match us, ws, h1, h2 with | [_], [_], _, _ => rfl)
  let D_spare_texts : Dk K mg "spare_texts" s_spare_texts "many" "but" := dk_mk X G a_spare_texts l_spare_texts c_spare_texts k_spare_texts n_spare_texts o_spare_texts t_spare_texts d_spare_texts (fun _ _ _ _ _ _ us ks h1 h2 => match us, ks, h1, h2 with | [_], [_], _, _ => ⟨_, _, _, _, _, _, rfl, rfl, rfl⟩) (fun _ _ _ _ _ _ us ws h1 h2 => match us, ws, h1, h2 with | [_], [_], _, _ => rfl)
  let D_numbered_texts : Df K mg "numbered_texts" s_numbered_texts ["letter", "many", "constants"] := df_mk X G a_numbered_texts l_numbered_texts c_numbered_texts k_numbered_texts fun _ _ _ _ _ _ us hl => match us, hl with | [_, _, _], _ => rfl
  let D_law_tape : Df K mg "_law_tape" s_law_tape ["script"] := df_mk X G a_law_tape l_law_tape c_law_tape k_law_tape fun _ _ _ _ _ _ us hl => match us, hl with | [_], _ => rfl
  let D_law_draw : Df K mg "_law_draw" s_law_draw ["tape", "many"] := df_mk X G a_law_draw l_law_draw c_law_draw k_law_draw fun _ _ _ _ _ _ us hl => match us, hl with | [_, _], _ => rfl
  let D_law_text : Df K mg "_law_text" s_law_text ["tape"] := df_mk X G a_law_text l_law_text c_law_text k_law_text fun _ _ _ _ _ _ us hl => match us, hl with | [_], _ => rfl
  let D_law_known : Df K mg "_law_known" s_law_known ["tape", "most"] := df_mk X G a_law_known l_law_known c_law_known k_law_known fun _ _ _ _ _ _ us hl => match us, hl with | [_, _], _ => rfl
  let D_law_first : Df K mg "_law_first" s_law_first ["letter", "many", "constants"] := df_mk X G a_law_first l_law_first c_law_first k_law_first fun _ _ _ _ _ _ us hl => match us, hl with | [_, _, _], _ => rfl
  let D_law : Df K mg "law" s_law ["script"] := df_mk X G a_law l_law c_law k_law fun _ _ _ _ _ _ us hl => match us, hl with | [_], _ => rfl
  let D : Ds K mg := ⟨D_sample_texts, D_spare_texts, D_numbered_texts, D_law_tape, D_law_draw, D_law_text, D_law_known, D_law_first, D_law⟩
  exact ⟨D.law.fd, fun s v => .of_eq rfl, fun base _ _ => ok_law D T⟩
end K00
open PySem PySem.W PyProof.Rows
set_option maxRecDepth 100000 in
set_option maxHeartbeats 0 in
theorem PySem.Challenge.cw_migraproof_k00_sample_and_spare_texts_holds : PySem.Challenge.rw_migraproof_k00_sample_and_spare_texts.Holds := by
  w_on; o_law; k_head; (case hw => w_witness2)
  k_fill
  refine L2.walk_of (l := PySem.Challenge.rw_migraproof_k00_sample_and_spare_texts) (n := 63) (k := 4) (x := "script") (CX := fun _ => L2.CX0) (sp := fun w => K00.spLaw _) rfl (by decide) rfl ⟨rfl, by decide, by decide⟩ (fun w h Y => PySem.W.kIn_of Y) ?F (fun _ _ a ns hl _ hS => ⟨a, ns, rfl, hS, hl, fun _ => rfl⟩) (fun _ _ _ _ _ h => h)
  case F =>
    intro w mg fa h KX G hmg
    refine' K00.all_mk KX G hmg ?a_sample_texts ?l_sample_texts ?c_sample_texts ?k_sample_texts ?n_sample_texts ?o_sample_texts ?t_sample_texts ?d_sample_texts ?a_spare_texts ?l_spare_texts ?c_spare_texts ?k_spare_texts ?n_spare_texts ?o_spare_texts ?t_spare_texts ?d_spare_texts ?a_numbered_texts ?l_numbered_texts ?c_numbered_texts ?k_numbered_texts ?a_law_tape ?l_law_tape ?c_law_tape ?k_law_tape ?a_law_draw ?l_law_draw ?c_law_draw ?k_law_draw ?a_law_text ?l_law_text ?c_law_text ?k_law_text ?a_law_known ?l_law_known ?c_law_known ?k_law_known ?a_law_first ?l_law_first ?c_law_first ?k_law_first ?a_law ?l_law ?c_law ?k_law ?z_abs ?z_int ?z_len ?z_list ?z_max ?z_range ?z_set ?z_sorted ?z_str ?z_tuple
    (case a_sample_texts => k_is)
    (case l_sample_texts => k_is)
    (case c_sample_texts => k_is)
    (case k_sample_texts => k_is)
    (case n_sample_texts => k_is)
    (case o_sample_texts => k_is)
    (case t_sample_texts => rfl)
    (case d_sample_texts => rfl)
    (case a_spare_texts => k_is)
    (case l_spare_texts => k_is)
    (case c_spare_texts => k_is)
    (case k_spare_texts => k_is)
    (case n_spare_texts => k_is)
    (case o_spare_texts => k_is)
    (case t_spare_texts => rfl)
    (case d_spare_texts => rfl)
    (case a_numbered_texts => k_is)
    (case l_numbered_texts => k_is)
    (case c_numbered_texts => k_is)
    (case k_numbered_texts => k_is)
    (case a_law_tape => k_is)
    (case l_law_tape => k_is)
    (case c_law_tape => k_is)
    (case k_law_tape => k_is)
    (case a_law_draw => k_is)
    (case l_law_draw => k_is)
    (case c_law_draw => k_is)
    (case k_law_draw => k_is)
    (case a_law_text => k_is)
    (case l_law_text => k_is)
    (case c_law_text => k_is)
    (case k_law_text => k_is)
    (case a_law_known => k_is)
    (case l_law_known => k_is)
    (case c_law_known => k_is)
    (case k_law_known => k_is)
    (case a_law_first => k_is)
    (case l_law_first => k_is)
    (case c_law_first => k_is)
    (case k_law_first => k_is)
    (case a_law => k_is)
    (case l_law => k_is)
    (case c_law => k_is)
    (case k_law => k_is)
    (case z_abs => k_is)
    (case z_int => k_is)
    (case z_len => k_is)
    (case z_list => k_is)
    (case z_max => k_is)
    (case z_range => k_is)
    (case z_set => k_is)
    (case z_sorted => k_is)
    (case z_str => k_is)
    (case z_tuple => k_is)
