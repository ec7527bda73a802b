import PyProof.Rows.All
import Wide.All
import OpenK.AllK
import Wide.FinOn
import PySem.Challenge.RW_migraproof_k28_arithmetic_of_polynomials
import HandS.ForMost
import HandS.Set
import HandS.SetFor
import HandS.SetKeys
import HandS.Strs
import HandS.FStr
import PyProof.Rows.SortShellAny
import HandS.IsInst
import HandS.Defaults
import HandS.Zip
import HandS.Wide
import HandS.Conv
import HandS.Flow
import HandS.Small
import KE.KDictPairs
import HandS.NoneIn
import HandS.Words
import PyProof.P3Eq
import HandS.Rev
import PyProof.EnumFor
set_option Elab.async false
set_option linter.all false
set_option maxRecDepth 100000
set_option maxHeartbeats 8000000
namespace Tq
open PySem PySem.Spec PyProof.Rows L2

/-! ### sets of texts, with the order of their table -/
def kS (e : Int × Value) : Str := match e.2 with
  | .str x _ => x
  | _ => Str.empty
def EntS (w : World) (e : Int × Value) : Prop := ∃ x u, e = (hashStr w x, Value.str x u)
structure TabS (w : World) (ob : Obj) (ks : List Str) (es : Array (Int × Value)) (ep : Nat) (tb : SetTable) : Prop where
  ex : ob.ExactSet
  da : ob.data = .set es ep tb
  en : ∀ e ∈ es.toList, EntS w e
  pm : (es.toList.map kS).Perm ks
  nd : ks.Nodup
  bd : es.size < scanBound
  ft : tb.fits es.size = true
  rs : Ris tb.place.toList
  ld : w.params.followText "set-order" = true ∨ tb.led = true
/-- the set of texts at a holds ks, each once -/
def TSet (w : World) (h : Heap) (a : Addr) (ks : List Str) : Prop := ∃ ob es ep tb, h.get? a = some ob ∧ TabS w ob ks es ep tb

section
variable {P : Program} {w : World} {A : Around} {E : Value → Shared → Prop} {s : Shared} {h h' : Heap} {a : Addr} {ks : List Str}
theorem TSet.keep (T : TSet w h a ks) (k : ∀ o, h.get? a = some o → h'.get? a = some o) : TSet w h' a ks :=
  let ⟨ob, es, ep, tb, g, t⟩ := T
  ⟨ob, es, ep, tb, k ob g, t⟩
theorem TSet.perm {ls : List Str} (T : TSet w h a ks) (p : ks.Perm ls) : TSet w h a ls :=
  let ⟨ob, es, ep, tb, g, t⟩ := T
  ⟨ob, es, ep, tb, g, ⟨t.ex, t.da, t.en, t.pm.trans p, p.nodup_iff.mp t.nd, t.bd, t.ft, t.rs, t.ld⟩⟩
theorem ent_is {e : Int × Value} (g : EntS w e) (k : Str) : (strKind P w).is k e.2 = true ↔ kS e = k := by
  obtain ⟨x, u, rfl⟩ := g
  show ((x == k) = true) ↔ x = k
  exact beq_iff_eq
theorem ents_of {l : List (Int × Value)} (g : ∀ e ∈ l, EntS w e) : ElemsOf (strKind P w) l := by
  intro e he
  obtain ⟨x, u, rfl⟩ := g e he
  exact ⟨⟨x, strKind_is P w x u, rfl⟩, rfl⟩
theorem mem_ents {l : List (Int × Value)} (g : ∀ e ∈ l, EntS w e) (k : Str) : k ∈ l.map kS ↔ ∃ e ∈ l, (strKind P w).is k e.2 = true := by
  constructor
  · intro m
    obtain ⟨e, he, q⟩ := List.mem_map.mp m
    exact ⟨e, he, (ent_is (g e he) k).mpr q⟩
  · rintro ⟨e, he, q⟩
    exact List.mem_map.mpr ⟨e, he, (ent_is (g e he) k).mp q⟩
theorem TabS.len {ob : Obj} {es : Array (Int × Value)} {ep : Nat} {tb : SetTable} (t : TabS w ob ks es ep tb) : es.size = ks.length := by
  have e := t.pm.length_eq
  simpa using e
theorem TSet.setOf (T : TSet w h a ks) : h.SetOf (strKind P w) a (fun k => decide (k ∈ ks)) ks.length := by
  obtain ⟨ob, es, ep, tb, g, t⟩ := T
  refine ⟨ob, es, ep, tb, g, t.ex, t.da, ents_of t.en, ?_, t.bd, t.ft, t.len⟩
  intro k
  rw [decide_eq_true_eq, ← t.pm.mem_iff]
  exact mem_ents t.en k

theorem put_get {ob : Obj} {es es' : Array (Int × Value)} {ep : Nat} {tb tb' : SetTable} (g : h.get? a = some ob) (d : ob.data = .set es ep tb) :
    (h.update a (Obj.putSet es' tb')).get? a = some { ob with data := .set es' (ep + 1) tb' } := by
  have z := Heap.get?_update_self (Obj.putSet es' tb') g (by rw [putSet_of es' tb' d]; rfl)
  rwa [putSet_of es' tb' d] at z

/-- the end of an addition: laid, and perhaps laid anew -/
theorem tail_laid {G : Bool → Sem Unit} (hG : ∀ (b : Bool) (s₁ : Shared) (Q' : Unit → Shared → Prop), Q' () s₁ → wpAny (model P w) A (G b) Q' E s₁)
    {ob : Obj} {es0 : Array (Int × Value)} {ep : Nat} {tb0 : SetTable} (g : s.heap.get? a = some ob) (x : ob.ExactSet) (d : ob.data = .set es0 ep tb0)
    {es : Array (Int × Value)} {tb : SetTable} (en : ∀ e ∈ es.toList, EntS w e) (pm : (es.toList.map kS).Perm ks) (nd : ks.Nodup) (bd : es.size < scanBound)
    (ft : tb.fits es.size = true) (rs : Ris tb.place.toList) (ld : w.params.followText "set-order" = true ∨ tb.led = true) {wd : Bool} {R : Option Bool → Shared → Prop}
    (hR : ∀ h', Heap.SameBut a s.heap h' → TSet w h' a ks → R (some true) { s with heap := h' }) :
    wpAny (model P w) A (do
      storeSet a es tb
      if (!wd && tb.tooFull) = true then do
        G (relayAll tb es (SetTable.grown es.size)).2.2
        storeSet a (relayAll tb es (SetTable.grown es.size)).1 (relayAll tb es (SetTable.grown es.size)).2.1
        pure (some true)
      else pure (some true)) R E s := by
  refine wpAny_bind (wpAny_storeSet_of g d ?_ (fits_of_scanBound bd))
  have g1 := put_get (es' := es) (tb' := tb) g d
  have b1 := Heap.SameBut.update s.heap a (Obj.putSet es tb)
  by_cases full : (!wd && tb.tooFull) = true
  · rw [if_pos full]
    have f1 := relayAll_perm tb es (SetTable.grown es.size)
    have f2 := relayAll_fits tb es (SetTable.grown es.size)
    have f3 := relayAll_ris tb es (SetTable.grown es.size)
    have f4 := relayAll_led tb es (SetTable.grown es.size)
    generalize relayAll tb es (SetTable.grown es.size) = Z at f1 f2 f3 f4 ⊢
    rcases Z with ⟨es2, tb2, gv⟩
    have z2 : es2.size = es.size := by simpa using f1.length_eq
    have bd2 : es2.size < scanBound := by omega
    refine wpAny_bind (hG _ _ _ (wpAny_bind (wpAny_storeSet_of g1 rfl ?_ (fits_of_scanBound bd2))))
    have g2 := put_get (es' := es2) (tb' := tb2) g1 rfl
    refine wpAny_pure (hR _ (b1.trans (Heap.SameBut.update _ a _)) ⟨_, es2, _, tb2, g2, x, rfl, ?_, (f1.map kS).trans pm, nd, bd2, f2, f3, ?_⟩)
    · intro e he
      exact en e (f1.mem_iff.mp he)
    · rcases ld with l | l
      · exact Or.inl l
      · exact Or.inr (f4.trans l)
  · rw [if_neg full]
    exact wpAny_pure (hR _ b1 ⟨_, es, _, tb, g1, x, rfl, en, pm, nd, bd, ft, rs, ld⟩)

theorem gave_way {b : Bool} {s₁ : Shared} {Q' : Unit → Shared → Prop} (q : Q' () s₁) : wpAny (model P w) A (match b with | true => rule "set.scan.the-table-gave-way" | false => pure ()) Q' E s₁ := by
  cases b
  · exact wpAny_pure q
  · exact wpAny_rule q

/-- a text is added by its hash -/
theorem add_hashed {x : Str} {u : Tok} {Q : Bool → Shared → Prop} (T : TSet w s.heap a ks) (room : ks.length + 1 < scanBound)
    (hQ : ∀ h', Heap.SameBut a s.heap h' → TSet w h' a (if x ∈ ks then ks else ks ++ [x]) → Q (!decide (x ∈ ks)) { s with heap := h' }) :
    wpAny (model P w) A (setAddHashed a (.str x u) ((strKind P w).hash x)) Q E s := by
  obtain ⟨ob, es, ep, tb, g, t⟩ := T
  have ln := t.len
  have hk : (strKind P w).is x (.str x u) = true := strKind_is P w x u
  have sc : (Value.str x u).scannable = true := rfl
  have el : ElemsOf (strKind P w) es.toList := ents_of t.en
  unfold setAddHashed setAddHashedIn
  refine wpAny_holding (wpAny_bind (wpAny_setState_of g t.da t.ft ?_))
  dsimp only
  rw [byScan_of sc t.bd el, if_pos rfl]
  unfold setAddByScan
  refine wpAny_bind (wpAny_bind (wpAny_rule (wpAny_bind (wpAny_setScan_of hk g t.da t.ft el ?_))))
  cases fi : List.findIdx? (fun e => (strKind P w).is x e.2) es.toList with
  | some j =>
    obtain ⟨jl, jp, _⟩ := List.findIdx?_eq_some_iff_getElem.mp fi
    have mx : x ∈ ks := t.pm.mem_iff.mp ((mem_ents (P := P) t.en x).mpr ⟨_, List.getElem_mem jl, jp⟩)
    have q := hQ s.heap (Heap.SameBut.refl a s.heap) ⟨ob, es, ep, tb, g, by rw [if_pos mx]; exact t⟩
    rw [decide_eq_true mx] at q
    exact wpAny_pure (wpAny_pure q)
  | none =>
    have nm : x ∉ es.toList.map kS := by
      intro m
      obtain ⟨e, he, q⟩ := (mem_ents (P := P) t.en x).mp m
      have c := List.findIdx?_eq_none_iff.mp fi e he
      simp [q] at c
    have nx : x ∉ ks := fun m => nm (t.pm.mem_iff.mpr m)
    have l1 := layNew_perm tb es ((strKind P w).hash x) (.str x u)
    have l2 := layNew_fits tb es ((strKind P w).hash x) (.str x u)
    have l3 := layNew_ris tb es ((strKind P w).hash x) (.str x u) t.rs
    have l4 := layNew_led tb es ((strKind P w).hash x) (.str x u)
    dsimp only
    generalize layNew tb es ((strKind P w).hash x) (.str x u) = Z at l1 l2 l3 l4 ⊢
    rcases Z with ⟨es1, tb1, wd, gv⟩
    dsimp only at l1 l2 l3 l4 ⊢
    rw [Array.toList_push] at l1
    have en1 : ∀ e ∈ es1.toList, EntS w e := by
      intro e he
      rcases List.mem_append.mp (l1.mem_iff.mp he) with m | m
      · exact t.en e m
      · rw [List.mem_singleton.mp m]
        exact ⟨x, u, rfl⟩
    have pm1 : (es1.toList.map kS).Perm (ks ++ [x]) := by
      refine (l1.map kS).trans ?_
      rw [List.map_append]
      exact t.pm.append_right [x]
    have nd1 : (ks ++ [x]).Nodup := by
      rw [List.nodup_append]
      exact ⟨t.nd, by simp, fun y hy z hz e => nx (by rw [List.mem_singleton.mp hz] at e; exact e ▸ hy)⟩
    have z1 : es1.size = ks.length + 1 := by
      have := pm1.length_eq
      simpa using this
    have bd1 : es1.size < scanBound := by omega
    have ld1 : w.params.followText "set-order" = true ∨ tb1.led = true := by
      rcases t.ld with l | l
      · exact Or.inl l
      · exact Or.inr (l4.trans l)
    have done : ∀ h', Heap.SameBut a s.heap h' → TSet w h' a (ks ++ [x]) → Q true { s with heap := h' } := by
      intro h' b T'
      have q := hQ h' b (by rw [if_neg nx]; exact T')
      rwa [decide_eq_false nx] at q
    refine wpAny_bind (gave_way ?_)
    split
    · refine wpAny_bind ?_
      rw [hashByValue_scannable 8 sc]
      refine wpAny_pure (tail_laid (fun b s₁ Q' q => gave_way q) g t.ex t.da en1 pm1 nd1 bd1 ?_ ?_ ?_ fun h' b T' => ?_)
      · first | (split <;> first | exact l2 | exact SetTable.fits_plain_off l2) | exact l2
      · first | (split <;> exact l3) | exact l3
      · first | (split <;> exact ld1) | exact ld1
      · dsimp only
        exact wpAny_pure (done h' b T')
    · refine wpAny_bind (wpAny_pure ?_)
      simp only [↓reduceIte]
      refine tail_laid (fun b s₁ Q' q => gave_way q) g t.ex t.da en1 pm1 nd1 bd1 l2 l3 ld1 fun h' b T' => ?_
      dsimp only
      exact wpAny_pure (done h' b T')
end

/-! ### set(t), set(l) of texts -/
def step1 (ks : List Str) (x : Str) : List Str := if x ∈ ks then ks else ks ++ [x]
/-- the texts, each once, by their first places -/
def once (xs : List Str) : List Str := xs.foldl step1 []
theorem once_snoc (xs : List Str) (x : Str) : once (xs ++ [x]) = step1 (once xs) x := by
  unfold once
  rw [List.foldl_append]
  rfl
theorem step1_mem (ks : List Str) (x y : Str) : y ∈ step1 ks x ↔ y ∈ ks ∨ y = x := by
  unfold step1
  split
  · rename_i h
    constructor
    · exact Or.inl
    · rintro (h2 | h2)
      · exact h2
      · exact h2 ▸ h
  · simp
theorem step1_nd {ks : List Str} (x : Str) (h : ks.Nodup) : (step1 ks x).Nodup := by
  unfold step1
  split
  · exact h
  · rename_i nx
    rw [List.nodup_append]
    exact ⟨h, by simp, fun y hy z hz e => nx (by rw [List.mem_singleton.mp hz] at e; exact e ▸ hy)⟩
theorem step1_len (ks : List Str) (x : Str) : (step1 ks x).length ≤ ks.length + 1 := by
  unfold step1
  split <;> simp
theorem fold_mem (xs : List Str) : ∀ (ks : List Str) (y : Str), y ∈ xs.foldl step1 ks ↔ y ∈ ks ∨ y ∈ xs := by
  induction xs with
  | nil => intro ks y; simp
  | cons x r ih =>
    intro ks y
    rw [List.foldl_cons, ih, step1_mem, List.mem_cons, or_assoc]
theorem once_mem (xs : List Str) (y : Str) : y ∈ once xs ↔ y ∈ xs := by
  unfold once
  rw [fold_mem]
  simp
theorem fold_nd (xs : List Str) : ∀ ks : List Str, ks.Nodup → (xs.foldl step1 ks).Nodup := by
  induction xs with
  | nil => intro ks h; exact h
  | cons x r ih => intro ks h; exact ih _ (step1_nd x h)
theorem once_nd (xs : List Str) : (once xs).Nodup := fold_nd xs [] List.nodup_nil
theorem fold_len (xs : List Str) : ∀ ks : List Str, (xs.foldl step1 ks).length ≤ ks.length + xs.length := by
  induction xs with
  | nil => intro ks; simp
  | cons x r ih =>
    intro ks
    have a := ih (step1 ks x)
    have b := step1_len ks x
    rw [List.foldl_cons, List.length_cons]
    omega
theorem once_len (xs : List Str) : (once xs).length ≤ xs.length := by
  have := fold_len xs []
  simpa [once] using this
theorem once_take {xs : List Str} {i : Nat} {x : Str} (h : xs[i]? = some x) : once (xs.take (i + 1)) = step1 (once (xs.take i)) x := by
  rw [List.take_add_one, h]
  exact once_snoc _ _

section
variable {P : Program} {w : World} {A : Around} {E : Value → Shared → Prop} {s : Shared}
theorem fill_loop {I : Addr} {fp wr : List Addr} {G : Array GenState → Array GenState → Prop} {n : Nat} {Pv : Nat → Value → Prop} {St : Nat → Shared → Prop} {R : Result → Shared → Prop}
    (W : WalksS P w A.in1 I fp wr G n Pv St) (S : Addr) (hS : S ∉ fp) (xs : List Str) (hn : n = xs.length) (hb : xs.length + 1 < scanBound) (hv : ∀ i v, Pv i v → ∃ x u, xs[i]? = some x ∧ v = .str x u)
    (fin : ∀ s', Moved (S :: wr) G s s' → TSet w s'.heap S (once xs) → R (.ok (.ret .none)) s') :
    ∀ (k i : Nat) (t : Shared), n - i = k → i ≤ n → St i t → TSet w t.heap S (once (xs.take i)) → Moved (S :: wr) G s t →
      codeAny (model P w) A (.builtin "set.update.loop" ⟨[.ref S, .ref I], []⟩) R t := by
  have hw : S ∉ wr := fun m => hS (W.sub _ m)
  have up : ∀ b ∈ wr, b ∈ S :: wr := fun b m => List.mem_cons_of_mem _ m
  intro k
  induction k with
  | zero =>
    intro i t e1 e2 st T mv
    have ei : i = xs.length := by omega
    refine codeAny_builtin F.entry_set_update_loop ?_
    rw [Around.under_plainId F.plain_set_update_loop _]
    show wpAny _ A.in1 (pyNext (.ref I) >>= _) _ _ t
    refine wpAny_bind (W.done t _ _ (by rw [← hn] at ei; rw [← ei]; exact st) fun t' m => ?_)
    show wpAny _ A.in1 (ret Value.none) _ _ t'
    have T' : TSet w t'.heap S (once (xs.take i)) := T.keep fun o g => m.heap S o hw g
    rw [ei, List.take_length] at T'
    exact wpAny_pure (fin t' (mv.trans W.gtrans (m.mono up)) T')
  | succ k ih =>
    intro i t e1 e2 st T mv
    have lt : i < n := by omega
    refine codeAny_builtin F.entry_set_update_loop ?_
    rw [Around.under_plainId F.plain_set_update_loop _]
    show wpAny _ A.in1 (pyNext (.ref I) >>= _) _ _ t
    refine wpAny_bind (W.item i t _ _ lt st fun v t' pv st' m => ?_)
    obtain ⟨x, u, hx, rfl⟩ := hv i v pv
    have T' : TSet w t'.heap S (once (xs.take i)) := T.keep fun o g => m.heap S o hw g
    have ln : (once (xs.take i)).length ≤ xs.length := Nat.le_trans (once_len _) (by rw [List.length_take]; exact Nat.min_le_right _ _)
    show wpAny _ A.in1 (holding [Value.str x u] (setAdd S (.str x u)) >>= _) _ _ t'
    refine wpAny_bind (wpAny_holding ?_)
    unfold setAdd
    refine wpAny_holding (wpAny_bind ((strKind P w).pyHash (k := x) (strKind_is _ _ _ _) ?_))
    refine add_hashed (s := { t' with toks := t'.toks + 1 }) T' (by omega) fun h' sb T2 => ?_
    have T3 : TSet w h' S (once (xs.take (i + 1))) := by
      rw [once_take hx]
      exact T2
    refine wpAny_pure ⟨plainId_quiet F.plain_set_update_loop _, ih (i + 1) _ (by omega) lt (W.frame _ t' _ _ st' (Nat.le_succ _) fun b m' o g => ?_) T3 ?_⟩
    · rw [sb.2 b fun z : b = S => hS (z ▸ m')]
      exact g
    · refine mv.trans W.gtrans ((m.mono up).then_heap (Nat.le_succ _) fun b o nb g => ?_)
      rw [sb.2 b fun z : b = S => nb (z ▸ List.mem_cons_self)]
      exact g
end

section
variable {P : Program} {w : World} {A : Around} {E : Value → Shared → Prop} {s : Shared}
/-- the object of a new set -/
abbrev noSet (w : World) : Obj := { cls := .type "set", dict := none, data := .set #[] 0 (.fresh 0 0 (!w.params.followText "set-order")) }
theorem noSet_ok {h : Heap} {a : Addr} (g : h.get? a = some (noSet w)) : TSet w h a [] := by
  refine ⟨noSet w, #[], 0, _, g, ⟨⟨rfl, rfl, rfl⟩, rfl, ?_, .nil, List.nodup_nil, by decide, rfl, List.Pairwise.nil, ?_⟩⟩
  · intro e m
    simp at m
  · show _ ∨ (!w.params.followText "set-order") = true
    cases w.params.followText "set-order" <;> simp
theorem strs_get : ∀ {us : List Value} {xs : List Str}, StrsAre us xs → ∀ (i : Nat) (v : Value), us[i]? = some v → ∃ x u, xs[i]? = some x ∧ v = .str x u
  | _, _, .nil, _, _, h => by simp at h
  | _, _, .cons x u _, 0, v, h => by
    simp at h
    exact ⟨x, u, rfl, h.symm⟩
  | _, _, .cons _ _ r, i + 1, v, h => strs_get r i v (by simpa using h)
/-- what set(..) leaves -/
def SetMade (w : World) (s : Shared) (xs : List Str) (z : Shared) : Prop := ∃ h' tk, z = { s with heap := h', toks := tk } ∧ TSet w h' s.heap.objs.size (once xs) ∧ ∀ b o, s.heap.get? b = some o → h'.get? b = some o


end
end Tq
namespace Tq
open PySem PySem.Spec PyProof.Rows L2
section
variable {P : Program} {w : World} {A : Around} {E : Value → Shared → Prop} {s : Shared}
set_option maxHeartbeats 8000000 in
theorem set_tup {l : Addr} {vs : Array Value} {xs : List Str} {Q : Value → Shared → Prop} (calm : A.handled = none) (hl : s.heap.IsTuple l vs) (sa : StrsAre vs.toList xs) (few : xs.length + 1 < scanBound)
    (k : ∀ z, SetMade w s xs z → Q (.ref s.heap.objs.size) z) : wpAny (model P w) A (call (.type "set") [.ref l]) Q E s := by
  have size : vs.size = xs.length := by rw [← StrsAre.len_eq sa, Array.length_toList]
  obtain ⟨c0, t0, mro⟩ := F.called_set.mro
  have f1 := F.called_set.made; have f2 := F.called_set.sub
  refine wpAny_call (codeAny_of_tree ?_)
  show wpAny _ _ (callAny (.type "set") _) _ _ _
  refine wpAny_pure ⟨Code.quiet_builtin _ (by decide +kernel), codeAny_builtin F.entry_type_call ?_⟩
  rw [Around.under_plain (weight_type_call_type "set" [.ref l] []) rfl]
  have f3 := F.called_set.notType; have f4 := F.called_set.canCreate; have f5 := F.typeCall_set_1 (.ref l)
  repeat (any_goals (first | assumption | wp_step))
  refine codeAny_mono (code_set_led1 (.ref l) (E := E) (Q₁ := fun o z => o = .ref s.heap.objs.size ∧ z = { s with heap := s.heap.push (noSet w) }) ⟨rfl, rfl⟩) fun r z hr => ?_
  match r, hr with
  | .error e, hr => exact hr
  | .ok (.ret o), hr =>
    obtain ⟨rfl, rfl⟩ := hr
    have g0 : (s.heap.push (noSet w)).get? s.heap.objs.size = some (noSet w) := Heap.get?_push_size _ rfl
    have ty : Shared.TypeIs { s with heap := s.heap.push (noSet w) } (.ref s.heap.objs.size) "set" := ⟨_, g0, rfl⟩
    have f6 := F.called_set.init.lookup; have f7 := F.called_set.init.bind (.ref s.heap.objs.size)
    repeat (any_goals (first | assumption | wp_step))
    refine codeAny_mono (codeAny_call_builtin (R := wants (fun r z => r = .none ∧ SetMade w s xs z) E) F.called_set.init.plain F.entry_set_init (check_set_init_1 ty ?_)) fun r z hr => ?_
    · obtain ⟨ob, gl, cl, n, dl⟩ := hl
      obtain ⟨_, dd, _, sl⟩ := ob
      simp only at cl dl
      subst cl; subst dl
      have gl' : (s.heap.push (noSet w)).get? l = some { cls := .type "tuple", dict := dd, data := .seq vs n, slots := sl } := Heap.get?_push_of_some _ gl
      have p1 := F.sub_tuple_set; have p2 := F.sub_tuple_frozenset
      have p3 : (Value.type "tuple" == Value.type "dict") = false := by decide
      have hl' : (s.heap.push (noSet w)).IsTuple l vs := ⟨_, gl', rfl, n, rfl⟩
      unfold Builtin.«set.__init__» noKeywords Builtin.Frozenset.updateFrom
      generalize hPI : pyIter = PI
      wp_walk
      subst hPI
      refine wpAny_pyIter_tuple hl' (wpAny_bind (wpAny_runValue ?_))
      have ll : l < s.heap.objs.size := Heap.lt_size gl
      have zz : (s.heap.push (noSet w)).objs.size = s.heap.objs.size + 1 := Heap.size_push ..
      have ne : l ≠ (s.heap.push (noSet w)).objs.size := by
        rw [zz]; exact Nat.ne_of_lt (Nat.lt_succ_of_lt ll)
      have nf : s.heap.objs.size ∉ [(s.heap.push (noSet w)).objs.size, l] := by
        rw [zz]
        simp only [List.mem_cons, List.not_mem_nil, or_false, not_or]
        exact ⟨Nat.ne_of_lt (Nat.lt_succ_self _), Nat.ne_of_gt ll⟩
      have val : ∀ (i : Nat) (v : Value), vs[i]? = some v → ∃ x u, xs[i]? = some x ∧ v = .str x u := fun i v e => strs_get sa i v (by rw [Array.getElem?_toList]; exact e)
      refine fill_loop ((Walks.tuple (by simp [calm]) _ l ne vs).toS) s.heap.objs.size nf xs size few val ?fin (vs.size - 0) 0 _ (by omega) (Nat.zero_le _) ⟨⟨_, Heap.get?_push_size _ rfl, rfl, rfl⟩, (hl'.push _)⟩ ?st (Moved.mk (fun _ _ _ e => e) rfl rfl rfl (Nat.le_refl _))
      case st =>
        exact noSet_ok (Heap.get?_push_of_some _ g0)
      case fin =>
        intro z m T
        obtain ⟨h', gg, dr, tk, os⟩ := z
        obtain rfl : gg = s.gens := m.gens
        obtain rfl : dr = s.drawn := m.drawn
        obtain rfl : os = s.os := m.os
        show wpAny _ _ _ _ _ _
        refine wpAny_pure ?_
        show wpAny _ _ (ret Value.none) _ _ _
        refine wpAny_pure ⟨rfl, h', tk, rfl, T, fun b o e => ?_⟩
        have lb : b < s.heap.objs.size := Heap.lt_size e
        refine m.heap b o ?_ (Heap.get?_push_of_some _ (Heap.get?_push_of_some _ e))
        rw [zz]
        simp only [List.mem_cons, List.not_mem_nil, or_false, not_or]
        exact ⟨Nat.ne_of_lt lb, Nat.ne_of_lt (Nat.lt_succ_of_lt lb)⟩
    · match r, hr with
      | .error e, hr => exact hr
      | .ok (.ret o), hr =>
        obtain ⟨rfl, sm⟩ := hr
        repeat (any_goals (first | assumption | wp_step))
        exact k _ sm
      | .ok .next, hr => exact hr.elim
      | .ok .brk, hr => exact hr.elim
      | .ok .cont, hr => exact hr.elim
  | .ok .next, hr => exact hr.elim
  | .ok .brk, hr => exact hr.elim
  | .ok .cont, hr => exact hr.elim

end
end Tq
namespace Tq
open PySem PySem.Spec PyProof.Rows L2
section
variable {P : Program} {w : World} {A : Around} {E : Value → Shared → Prop} {s : Shared} {a : Addr}
theorem strs_of_ents : ∀ l : List Value, (∀ v ∈ l, ∃ x u, v = Value.str x u) → StrsAre l (l.map fun v => kS (0, v))
  | [], _ => .nil
  | v :: l, h => by
    obtain ⟨x, u, rfl⟩ := h v List.mem_cons_self
    exact .cons x u (strs_of_ents l fun y m => h y (List.mem_cons_of_mem _ m))
/-- what sorted(..) of a set of texts leaves -/
theorem sorted_txt {ks : List Str} {Q : Value → Shared → Prop} (T : TSet w s.heap a ks) (calm : A.handled = none)
    (k : ∀ z p (out : Array Value) (c : Nat) (ys : List Str), (∀ b o, s.heap.get? b = some o → z.heap.get? b = some o) → z.gens = s.gens → z.os = s.os → s.heap.objs.size ≤ p →
      z.heap.get? p = some (seqObj "list" out c) → StrsAre out.toList ys → ys.Perm ks → sortedS ys = true → Q (.ref p) z) :
    wpAny (model P w) A (call (.builtin "sorted") [.ref a]) Q E s := by
  obtain ⟨ob, es, ep, tb, g, t⟩ := T
  have z0 : es.size ≤ sizeLine := Nat.le_trans (Nat.le_of_lt t.bd) (by decide)
  refine Calls.call_function_entry kind_sorted plain_sorted entry_sorted (args_sorted1 _) ?_
  unfold Builtin.«sorted»
  refine wpAny_bind (m := checkCount "sorted" 1 1 _) (wpAny_pure (wpAny_bind (collect_set (A := A.in1) calm ⟨ob, g, t.ex.1, t.da⟩ t.ft t.bd t.rs t.ld fun z1 vs k1 k2 k3 k4 pm => ?_)))
  have vl : vs.length ≤ sizeLine := by
    rw [pm.length_eq, List.length_map, Array.length_toList]
    exact z0
  have sa : StrsAre vs (vs.map fun v => kS (0, v)) := strs_of_ents vs fun v m => by
    obtain ⟨e, he, rfl⟩ := List.mem_map.mp (pm.mem_iff.mp m)
    obtain ⟨x, u, rfl⟩ := t.en e he
    exact ⟨x, u, rfl⟩
  have pk : (vs.map fun v => kS (0, v)).Perm ks := by
    refine (pm.map _).trans ?_
    rw [List.map_map]
    exact t.pm
  refine wpAny_bind (wpAny_newList ?_ vl)
  have gl : (z1.heap.push (seqObj "list" vs.toArray 0)).get? z1.heap.objs.size = some (seqObj "list" vs.toArray 0) := Heap.get?_push_size _ rfl
  refine wpAny_bind (wpAny_holding (wpAny_call_entry slot_list_sort ⟨_, gl, rfl⟩ entry_list_sort
    (list_sort_treeKAny strKind_oneLt gl sa.keysOf (fun v₁ v₂ r e => keyKind_strs (e ▸ sa)) vl fun st hp hs => ⟨_, rfl, ?_⟩) (args_list_sort _)))
  obtain ⟨ys, q1, q2, q3⟩ := sorted_out_str sa hp hs
  obtain ⟨c, hc⟩ := sortedHeap_at (vs := vs) (out := (arrOf st).map (·.2)) gl
  refine wpAny_pure ⟨_, rfl, k _ z1.heap.objs.size _ c ys (fun b o e => ?_) k3 k4 k2 hc q1 (q2.trans pk) q3⟩
  have e1 := k1 b o e
  have lt := Heap.lt_size e1
  show (sortedHeap (z1.heap.push (seqObj "list" vs.toArray 0)) z1.heap.objs.size vs _).get? b = some o
  rw [sortedHeap_old (Nat.ne_of_lt lt) (by rw [size_push']; exact Nat.lt_succ_of_lt lt)]
  exact Heap.get?_push_of_some _ e1
end

/-! ### over the layer -/
/-- the set of texts at a, by the layer -/
def TSO (w : World) (a : Addr) (ks : List Str) : HO := .ext fun h => TSet w h a ks
section
variable {X : Cx}
theorem tso_new {w : World} {P : Program} {H : Hp} {h : Heap} {a : Addr} {ks : List Str} (T : TSet w h a ks) : ObjOk P w H h a (TSO w a ks) := by
  have ⟨ob, _, _, _, g, _⟩ := T
  exact ⟨T, ⟨ob, g⟩, fun _ _ p k => p.keep k⟩
theorem tso_get {pins : List (Addr × Obj)} {σ : L2.St} {H : Hp} {s : Shared} {a : Addr} {ks : List Str} (I : Inv X pins σ H s) (g : H a = some (TSO X.w a ks)) : TSet X.w s.heap a ks := (I.hok a _ g).1
/-- set(t), set(l) -/
def rSetT (K : PySem.W.Frag) (w : World) : List V → Hp → VK → Prop := fun vs H Q => ∃ (a : Addr) (xs : List Str), vs = [.ref a] ∧ SqT K H a (xs.map V.str) ∧ xs.length + 1 < scanBound ∧
  ∀ p, H p = none → Q (.ref p) (upd H p (TSO w p (once xs)))
theorem cr_setT (hc : X.calm = true) : CallR X (.type "set") (rSetT X.K X.w) := by
  intro pins s σ H vs us Q I r h
  obtain ⟨a, xs, rfl, hs, few, q⟩ := h
  rw [Vals.ref1 r]
  obtain ⟨its, rv, hl, _⟩ := I.tuple hs
  refine set_tup (I.ok.hd hc) hl (by simpa using rv.strs) few fun z ⟨h', tk, ez, T, kp⟩ => ?_
  subst ez
  exact ⟨.ref _, upd H s.heap.objs.size (TSO X.w s.heap.objs.size (once xs)), I.laid (t' := tk) kp (Nat.le_refl _) (tso_new T), rfl, q _ (I.hok.fresh (Nat.le_refl _))⟩
/-- sorted(set) -/
def rSortT (w : World) : List V → Hp → VK → Prop := fun vs H Q => ∃ (a : Addr) (ks : List Str), vs = [.ref a] ∧ H a = some (TSO w a ks) ∧
  ∀ (ys : List Str) (p : Addr), ys.Perm ks → sortedS ys = true → H p = none → Q (.ref p) (upd H p (.lst (ys.map V.str)))
theorem cr_sortT (hc : X.calm = true) : CallR X (.builtin "sorted") (rSortT X.w) := by
  intro pins s σ H vs us Q I r h
  obtain ⟨a, ks, rfl, g, q⟩ := h
  rw [Vals.ref1 r]
  have T := tso_get I g
  have kl : ks.length ≤ sizeLine := by
    have ⟨ob, es, ep, tb, g', t⟩ := T
    have e := t.len
    have b := t.bd
    exact Nat.le_trans (Nat.le_of_lt (by omega)) (show scanBound ≤ sizeLine by decide)
  refine sorted_txt T (I.ok.hd hc) fun z p out c ys k1 k2 k3 k4 k5 sa pm so => ?_
  have hn : H p = none := I.hok.fresh k4
  have yl : (ys.map V.str).length ≤ sizeLine := by
    rw [List.length_map, pm.length_eq]
    exact kl
  have J : Inv X pins σ (upd H p (.lst (ys.map V.str))) { s with heap := z.heap, gens := z.gens, drawn := z.drawn, toks := z.toks } := by
    refine I.call (ch := []) (Un.laid k1 k4 hn) (I.hok.laid k1 k4 ⟨yl, out.toList, c, vals_of_strs sa, ?_⟩) ?_ (fun _ m => nomatch m)
    · rw [Array.toArray_toList]
      exact k5
    · rw [k2]
      exact I.bare
  have ez : z = { s with heap := z.heap, gens := z.gens, drawn := z.drawn, toks := z.toks } := by
    cases z; cases s; cases k3
    rfl
  rw [ez]
  exact ⟨.ref p, _, J, rfl, q ys p pm so hn⟩
/-- x in s, x not in s -/
def rInT (w : World) (neg : Bool) : R2 := fun x y H Q => ∃ (z : Str) (a : Addr) (ks : List Str), x = .str z ∧ y = .ref a ∧ H a = some (TSO w a ks) ∧ Q (.bl (if neg then !decide (z ∈ ks) else decide (z ∈ ks))) H
theorem op_inT : OpR X (compareOp .In) (rInT X.w false) := by
  intro pins s σ H x y v u Q I rx ry h
  obtain ⟨z, a, ks, rfl, rfl, g, q⟩ := h
  obtain ⟨t, rfl⟩ := rx
  cases ry
  exact wpAny_inSet_of (knd := strKind X.prog X.w) (k := z) (strKind_is _ _ _ _) rfl (tso_get I g).setOf ⟨.bl _, H, I.tok _, rfl, q⟩
theorem op_notInT : OpR X (compareOp .NotIn) (rInT X.w true) := by
  intro pins s σ H x y v u Q I rx ry h
  obtain ⟨z, a, ks, rfl, rfl, g, q⟩ := h
  obtain ⟨t, rfl⟩ := rx
  cases ry
  exact wpAny_notInSet_of (knd := strKind X.prog X.w) (k := z) (strKind_is _ _ _ _) rfl (tso_get I g).setOf ⟨.bl _, H, I.tok _, rfl, q⟩
end
end Tq
namespace Tq
open PySem PySem.Spec PyProof.Rows L2
/-! ### text * int -/
section
variable {X : Cx}
theorem mulOk {z : Str} {n : Int} (h1 : z.length ≤ 1000) (h2 : -1000 ≤ n) (h3 : n ≤ 1000) : MulOk z n := by
  refine ⟨?_, ?_, ?_⟩
  · have a : ¬ n < -(2 ^ 63 : Int) := by omega
    have b : ¬ n ≥ 2 ^ 63 := by omega
    rw [decide_eq_false a, decide_eq_false b]; rfl
  · intro a _ c
    have e : (9223372036854 : Int) ≤ (2 ^ 63 - 1) / n := by
      refine (Int.le_ediv_iff_mul_le (by omega)).mpr ?_
      omega
    omega
  · intro a _
    have e : z.length * n.toNat ≤ 1000 * 1000 := Nat.mul_le_mul h1 (by omega)
    unfold Builtin.Str.tooLong
    have l : sizeLine ≥ 1000 * 1000 := by decide
    simp only [decide_eq_false_iff_not]
    omega
def rMulS : R2 := fun x y H Q => ∃ z n, x = .str z ∧ y = .int n ∧ (z.length ≤ 1000 ∧ -1000 ≤ n ∧ n ≤ 1000) ∧ Q (.str (Txt.mul z n)) H
theorem op_mulS : OpR X (binaryOp .Mult) rMulS := by
  intro pins s σ H x y v u Q I rx ry h
  obtain ⟨z, n, rfl, rfl, ⟨h1, h2, h3⟩, q⟩ := h
  obtain ⟨t, rfl⟩ := rx
  obtain ⟨t', rfl⟩ := ry
  exact SB.mul (mulOk h1 h2 h3) fun t' k => ⟨.str _, H, I.tok _, ⟨_, rfl⟩, q⟩
end
/-! ### a def of the text -/
structure Df (K : PySem.W.Frag) (mg : Str → Option Value) (x : Str) (st : Stmt) (ps : List Str) where
  f : Addr
  fd : FuncData
  F : Fun K x x st f fd
  g : mg x = some (.ref f)
  b : Binds K fd ps []
/-- all but t stands as it stood -/
def But (t : Addr) (H H' : Hp) : Prop := ∀ b o, b ≠ t → H b = some o → H' b = some o
theorem But.trans {t : Addr} {H H1 H2 : Hp} (a : But t H H1) (b : But t H1 H2) : But t H H2 := fun c o n h => b c o n (a c o n h)
theorem But.refl (t : Addr) (H : Hp) : But t H H := fun _ _ _ h => h
theorem Same.but {t : Addr} {H H' : Hp} (a : Same H H') : But t H H' := fun c o _ h => a c o h
theorem But.upd {t : Addr} {H H' : Hp} {o : HO} (a : But t H H') : But t H (L2.upd H' t o) := fun c u n h => by
  rw [upd_ne n]
  exact a c u n h
theorem But.new {t p : Addr} {H H' : Hp} {o : HO} (a : But t H H') (n : H p = none) : But t H (L2.upd H' p o) := fun c u m h => by
  rw [upd_ne (ne_of_none h n)]
  exact a c u m h
theorem But.seq {K : PySem.W.Frag} {t : Addr} {H H' : Hp} {a : Addr} {xs : List V} (e : But t H H') (n : a ≠ t) (h : SqL K H a xs) : SqL K H' a xs := by
  rcases h with (h | ⟨o, h⟩) | h
  · exact .inl (.inl (e _ _ n h))
  · exact .inl (.inr ⟨o, e _ _ n h⟩)
  · exact .inr h
/-- the tape stands at t, its cells at a -/
def Tape (H : Hp) (t a : Addr) : Prop := ∃ (ns : List Int) (p c d : Int), a ≠ t ∧ 0 ≤ p ∧ 0 ≤ c ∧ 0 ≤ d ∧ H a = some (.lst (ns.map V.int)) ∧ H t = some (.lst [.ref a, .int p, .int c, .int d])
end Tq
namespace Tq
open PySem PySem.Spec PyProof.Rows L2
/-! ### the operators by names, and one step back from what follows -/
section
variable {X : Cx} {K : PySem.W.Frag} {H : Hp} {Q : VK} {i j : Int} {σ : L2.St} {a p : Addr} {x y v : V} {xs ys : List V}
def rAddI : R2 := rI0 fun i j => .int (i + j)
def rSubI : R2 := rI0 fun i j => .int (i - j)
def rMulI : R2 := rI CMul fun i j => .int (i * j)
def rModI : R2 := rI (fun _ j => j ≠ 0) fun i j => .int (i.fmod j)
def CDiv64 (_ j : Int) : Prop := 0 < j ∧ j < 18446744073709551616
def rDivI : R2 := rI CDiv64 fun i j => .int (i.fdiv j)
def rPowI : R2 := rI CPow fun i j => .int (i ^ j.toNat)
theorem o_add : OpR X (binaryOp .Add) rAddI := op_add
theorem o_sub : OpR X (binaryOp .Sub) rSubI := op_sub
theorem o_mul : OpR X (binaryOp .Mult) rMulI := op_mul
theorem o_mod : OpR X (binaryOp .Mod) rModI := op_modN
theorem o_div : OpR X (binaryOp .FloorDiv) rDivI := by
  intro pins s σ H x y v u Q I rx ry h
  obtain ⟨i, j, rfl, rfl, ⟨j0, j1⟩, q⟩ := h
  have q : Q (.int (i.fdiv j)) H := q
  rw [Int.fdiv_eq_ediv_of_nonneg i (Int.le_of_lt j0)] at q
  exact op_fdivW pins s σ H _ _ v u Q I rx ry ⟨i, j, rfl, rfl, wide_div (b := 64) (i := i) j0 (by omega) (by decide) (by decide), q⟩
theorem o_pow : OpR X (binaryOp .Pow) rPowI := op_pow
theorem l_add (q : Q (.int (i + j)) H) : rAddI (.int i) (.int j) H Q := ⟨i, j, rfl, rfl, q⟩
theorem l_sub (q : Q (.int (i - j)) H) : rSubI (.int i) (.int j) H Q := ⟨i, j, rfl, rfl, q⟩
theorem l_mul (c : CMul i j) (q : Q (.int (i * j)) H) : rMulI (.int i) (.int j) H Q := ⟨i, j, rfl, rfl, c, q⟩
theorem l_mod (c : j ≠ 0) (q : Q (.int (i.fmod j)) H) : rModI (.int i) (.int j) H Q := ⟨i, j, rfl, rfl, c, q⟩
theorem l_div (c : CDiv64 i j) (q : Q (.int (i.fdiv j)) H) : rDivI (.int i) (.int j) H Q := ⟨i, j, rfl, rfl, c, q⟩
theorem l_pow (c : CPow i j) (q : Q (.int (i ^ j.toNat)) H) : rPowI (.int i) (.int j) H Q := ⟨i, j, rfl, rfl, c, q⟩
def rLtI : R2 := rI0 fun i j => .bl (decide (i < j))
def rLeI : R2 := rI0 fun i j => .bl (decide (i ≤ j))
def rGtI : R2 := rI0 fun i j => .bl (decide (j < i))
def rGeI : R2 := rI0 fun i j => .bl (decide (j ≤ i))
theorem o_lt : OpR X (compareOp .Lt) rLtI := op_lt
theorem o_le : OpR X (compareOp .LtE) rLeI := op_le
theorem o_gt : OpR X (compareOp .Gt) rGtI := op_gt
theorem o_ge : OpR X (compareOp .GtE) rGeI := op_ge
theorem l_lt (q : Q (.bl (decide (i < j))) H) : rLtI (.int i) (.int j) H Q := ⟨i, j, rfl, rfl, q⟩
theorem l_le (q : Q (.bl (decide (i ≤ j))) H) : rLeI (.int i) (.int j) H Q := ⟨i, j, rfl, rfl, q⟩
theorem l_gt (q : Q (.bl (decide (j < i))) H) : rGtI (.int i) (.int j) H Q := ⟨i, j, rfl, rfl, q⟩
theorem l_ge (q : Q (.bl (decide (j ≤ i))) H) : rGeI (.int i) (.int j) H Q := ⟨i, j, rfl, rfl, q⟩
theorem l_eqI (q : Q (.bl (decide (i = j))) H) : rEq (.int i) (.int j) H Q := ⟨rfl, by rw [show decide (V.int i = V.int j) = decide (i = j) by simp]; exact q⟩
theorem l_neI (q : Q (.bl (!decide (i = j))) H) : rNe (.int i) (.int j) H Q := ⟨rfl, by rw [show decide (V.int i = V.int j) = decide (i = j) by simp]; exact q⟩
theorem l_eqS {z u : Str} (q : Q (.bl (decide (z = u))) H) : rEq (.str z) (.str u) H Q := ⟨rfl, by rw [show decide (V.str z = V.str u) = decide (z = u) by simp]; exact q⟩
theorem l_neS {z u : Str} (q : Q (.bl (!decide (z = u))) H) : rNe (.str z) (.str u) H Q := ⟨rfl, by rw [show decide (V.str z = V.str u) = decide (z = u) by simp]; exact q⟩
/-- texts -/
def rAddS' : R2 := fun x y H Q => ∃ i j, x = .str i ∧ y = .str j ∧ i.length + j.length ≤ sizeLine ∧ Q (.str (i ++ j)) H
def rLtS : R2 := fun x y H Q => ∃ i j, x = .str i ∧ y = .str j ∧ Q (.bl (decide (i.cps.toList < j.cps.toList))) H
def rLeS : R2 := fun x y H Q => ∃ i j, x = .str i ∧ y = .str j ∧ Q (.bl (!decide (j.cps.toList < i.cps.toList))) H
theorem o_addS : OpR X (binaryOp .Add) rAddS' := op_add_str
theorem o_ltS : OpR X (compareOp .Lt) rLtS := op_lt_str
theorem o_leS : OpR X (compareOp .LtE) rLeS := op_le_str
theorem l_addS {z u : Str} (c : z.length + u.length ≤ sizeLine) (q : Q (.str (z ++ u)) H) : rAddS' (.str z) (.str u) H Q := ⟨z, u, rfl, rfl, c, q⟩
theorem l_ltS {z u : Str} (q : Q (.bl (decide (z.cps.toList < u.cps.toList))) H) : rLtS (.str z) (.str u) H Q := ⟨z, u, rfl, rfl, q⟩
theorem l_leS {z u : Str} (q : Q (.bl (!decide (u.cps.toList < z.cps.toList))) H) : rLeS (.str z) (.str u) H Q := ⟨z, u, rfl, rfl, q⟩
theorem l_mulS {z : Str} {n : Int} (c : z.length ≤ 1000 ∧ -1000 ≤ n ∧ n ≤ 1000) (q : Q (.str (Txt.mul z n)) H) : rMulS (.str z) (.int n) H Q := ⟨z, n, rfl, rfl, c, q⟩
/-- calls -/
def rInt1 : List V → Hp → VK → Prop := fun xs H Q => ∃ i, xs = [.int i] ∧ Q (.int i) H
def rAbs1 : List V → Hp → VK → Prop := fun xs H Q => ∃ i, xs = [.int i] ∧ Q (.int (if i < 0 then -i else i)) H
def rMaxI : List V → Hp → VK → Prop := fun xs H Q => ∃ i j, xs = [.int i, .int j] ∧ Q (.int (if j > i then j else i)) H
def rMinI : List V → Hp → VK → Prop := fun xs H Q => ∃ i j, xs = [.int i, .int j] ∧ Q (.int (if j < i then j else i)) H
def rStrI : List V → Hp → VK → Prop := fun xs H Q => ∃ i, xs = [.int i] ∧ i.natAbs.log2 < 1920 ∧ Q (.str (toString i)) H
def rLenQ (K : PySem.W.Frag) : List V → Hp → VK → Prop := fun xs H Q => ∃ p ys, xs = [.ref p] ∧ (SqL K H p ys ∨ SqT K H p ys) ∧ Q (.int ys.length) H
def rLenT : List V → Hp → VK → Prop := fun xs H Q => ∃ z, xs = [.str z] ∧ z.length ≤ sizeLine ∧ Q (.int z.length) H
def rListQ (K : PySem.W.Frag) : List V → Hp → VK → Prop := fun xs H Q => ∃ p ys, xs = [.ref p] ∧ (SqL K H p ys ∨ SqT K H p ys) ∧ ∀ l, H l = none → Q (.ref l) (upd H l (.lst ys))
def rTupQ (K : PySem.W.Frag) : List V → Hp → VK → Prop := fun xs H Q => ∃ p ys, xs = [.ref p] ∧ ((SqL K H p ys ∧ ∀ l, H l = none → Q (.ref l) (upd H l (.tup ys))) ∨ (SqT K H p ys ∧ Q (.ref p) H))
theorem c_int : CallR X (.type "int") rInt1 := fun pins s σ H xs us Q I r h => call_int1 pins s σ H xs us Q I r (.inl h)
theorem c_abs : CallR X (.builtin "abs") rAbs1 := call_abs
theorem c_max (hc : X.calm = true) : CallR X (.builtin "max") rMaxI := call_max2 hc
theorem c_min (hc : X.calm = true) : CallR X (.builtin "min") rMinI := call_min2 hc
theorem c_str : CallR X (.type "str") rStrI := call_str_int
theorem c_len : CallR X (.builtin "len") (rLenQ X.K) := call_len_seq
theorem c_lenS : CallR X (.builtin "len") rLenT := call_len_str
theorem c_list : CallR X (.type "list") (rListQ X.K) := call_list_of
theorem c_tuple : CallR X (.type "tuple") (rTupQ X.K) := call_tuple_of
theorem l_int (q : Q (.int i) H) : rInt1 [.int i] H Q := ⟨i, rfl, q⟩
theorem l_abs (q : Q (.int (if i < 0 then -i else i)) H) : rAbs1 [.int i] H Q := ⟨i, rfl, q⟩
theorem l_max (q : Q (.int (if j > i then j else i)) H) : rMaxI [.int i, .int j] H Q := ⟨i, j, rfl, q⟩
theorem l_min (q : Q (.int (if j < i then j else i)) H) : rMinI [.int i, .int j] H Q := ⟨i, j, rfl, q⟩
theorem l_str (c : i.natAbs.log2 < 1920) (q : Q (.str (toString i)) H) : rStrI [.int i] H Q := ⟨i, rfl, c, q⟩
theorem l_lenL (h : SqL K H p ys) (q : Q (.int ys.length) H) : rLenQ K [.ref p] H Q := ⟨p, ys, rfl, .inl h, q⟩
theorem l_lenT (h : SqT K H p ys) (q : Q (.int ys.length) H) : rLenQ K [.ref p] H Q := ⟨p, ys, rfl, .inr h, q⟩
theorem l_lenS {z : Str} (h : z.length ≤ sizeLine) (q : Q (.int z.length) H) : rLenT [.str z] H Q := ⟨z, rfl, h, q⟩
theorem l_listL (h : SqL K H p ys) (q : ∀ l, H l = none → Q (.ref l) (upd H l (.lst ys))) : rListQ K [.ref p] H Q := ⟨p, ys, rfl, .inl h, q⟩
theorem l_tupL (h : SqL K H p ys) (q : ∀ l, H l = none → Q (.ref l) (upd H l (.tup ys))) : rTupQ K [.ref p] H Q := ⟨p, ys, rfl, .inl ⟨h, q⟩⟩
/-- items, stores -/
theorem l_ixL (h : SqL K H p xs) (e : atI xs i = some v) (q : Q v H) : rIxL K (.ref p) (.int i) H Q := ⟨p, xs, i, v, rfl, rfl, h, e, q⟩
theorem l_ixT (h : SqT K H p xs) (e : atI xs i = some v) (q : Q v H) : rIxT K (.ref p) (.int i) H Q := ⟨p, xs, i, v, rfl, rfl, h, e, q⟩
theorem l_ixS {z : Str} {c : Nat} (h : z.length ≤ sizeLine) (e : atI z.cps.toList i = some c) (q : Q (.str ⟨#[c]⟩) H) : rIxS (.str z) (.int i) H Q := ⟨z, i, c, rfl, rfl, h, e, q⟩
theorem l_setL {n : Nat} {R : Hp → Prop} (h : H p = some (.lst xs)) (e : ixN xs.length i = some n) (q : R (upd H p (.lst (xs.set n v)))) : rSetL (.ref p) (.int i) v H R := ⟨p, xs, i, n, rfl, rfl, h, e, q⟩
theorem l_app (h : H p = some (.lst xs)) (n : xs.length < sizeLine) (q : Q .non (upd H p (.lst (xs ++ [v])))) : rAppend (.ref p) [v] H Q := ⟨p, xs, v, rfl, rfl, h, n, q⟩
/-! ### the syntax's own steps -/
variable {ta tb te : TE} {t u : TT} {D : Ends} {A B : TS} {tr : TA} {g : TG} {sp : Sp} {E : XK} {r : R2} {rc : List V → Hp → VK → Prop} {n : Nat}
theorem l_var (h : σ[n]? = some (some v)) (q : Q v H) : tVar n σ H Q := ⟨v, h, q⟩
theorem l_c (q : Q v H) : tC v σ H Q := q
theorem l_op (q : ta σ H fun x H1 => tb σ H1 fun y H2 => r x y H2 Q) : tOp r ta tb σ H Q := q
theorem l_cb (q : tr σ H fun vs H1 => rc vs H1 Q) : tCB rc tr σ H Q := q
theorem l_nil {Q : List V → Hp → Prop} (q : Q [] H) : tNil σ H Q := q
theorem l_cons {Q : List V → Hp → Prop} (q : ta σ H fun x H1 => tr σ H1 fun xs H2 => Q (x :: xs) H2) : tCons ta tr σ H Q := q
theorem l_call (q : tr σ H fun vs H1 => sp vs H1 Q E) : tCall sp [] E tr σ H Q := by
  show tr σ H fun vs H1 => sp (vs ++ []) H1 Q E
  simp only [List.append_nil]
  exact q
theorem l_lst (q : tr σ H fun xs H1 => xs.length ≤ sizeLine ∧ ∀ p, H1 p = none → Q (.ref p) (upd H1 p (.lst xs))) : tLst tr σ H Q := q
theorem l_tup (q : tr σ H fun xs H1 => xs.length ≤ sizeLine ∧ ∀ p, H1 p = none → Q (.ref p) (upd H1 p (.tup xs))) : tTup tr σ H Q := q
theorem l_bm {T : String} {rm : V → List V → Hp → VK → Prop} {to : TE} (q : to σ H fun x H1 => tyV K T x H1 ∧ tr σ H1 fun xs H2 => rm x xs H2 Q) : tBM K T rm to tr σ H Q := q
theorem l_tyL (h : SqL K H p xs) : tyV K "list" (.ref p) H := .inl ⟨rfl, xs, h⟩
theorem l_seq (q : A { D with nx := B D } σ H) : tSeq A B D σ H := q
theorem l_next (q : D.nx σ H) : tNext D σ H := q
theorem l_asg (q : te σ H fun x H1 => g x σ H1 D.nx) : tAsg te g D σ H := q
theorem l_gname {R : L2.St → Hp → Prop} (q : R (σ.set n (some v)) H) : gName n v σ H R := q
theorem l_gsub {R : L2.St → Hp → Prop} {ts : L2.TSet} (q : ta σ H fun o H1 => tb σ H1 fun i H2 => ts o i v H2 fun H3 => R σ H3) : gSub ta tb ts v σ H R := q
theorem l_ret (q : te σ H D.rt) : tRet te D σ H := q
theorem l_drop (q : te σ H fun _ H1 => D.nx σ H1) : tDrop te D σ H := q
theorem l_ifs (q : t σ H fun b H1 => if b = true then A D σ H1 else B D σ H1) : tIfS t A B D σ H := q
theorem l_test {R : Bool → Hp → Prop} (q : te σ H fun x H1 => ∃ k, x = .bl k ∧ R k H1) : tTest te σ H R := q
theorem l_b {R : Bool → Hp → Prop} (q : te σ H fun x H1 => ∃ k, x = .bl k ∧ R k H1) : tB te σ H R := q
theorem l_bl {k : Bool} {R : Bool → Prop} (q : R k) : ∃ c, V.bl k = .bl c ∧ R c := ⟨k, rfl, q⟩
theorem l_not {R : Bool → Hp → Prop} (q : t σ H fun c H1 => R (!c) H1) : tNot t σ H R := q
theorem l_or {R : Bool → Hp → Prop} (q : t σ H fun c H1 => if c = true then R true H1 else u σ H1 R) : tOr t u σ H R := q
theorem l_and {R : Bool → Hp → Prop} (q : t σ H fun c H1 => if c = true then u σ H1 R else R false H1) : tAnd t u σ H R := q
theorem l_aug {ti : TIp} (h : σ[n]? = some (some x)) (q : te σ H fun y H1 => ti x y H1 fun z H2 => D.nx (σ.set n (some z)) H2) : tAug n te ti D σ H := ⟨x, h, q⟩
theorem l_ipI {f : Int → Int → Int} (q : Q (.int (f i j)) H) : ipI f (.int i) (.int j) H Q := ⟨i, j, rfl, rfl, q⟩
theorem l_if {c A B : Prop} [Decidable c] (h1 : c → A) (h2 : ¬ c → B) : if decide c = true then A else B := by
  by_cases h : c
  · rw [if_pos (decide_eq_true h)]; exact h1 h
  · rw [if_neg (by rw [decide_eq_false h]; decide)]; exact h2 h
theorem l_ifN {c A B : Prop} [Decidable c] (h1 : ¬ c → A) (h2 : c → B) : if (!decide c) = true then A else B := by
  by_cases h : c
  · rw [if_neg (by rw [decide_eq_true h]; decide)]; exact h2 h
  · rw [if_pos (by rw [decide_eq_false h]; decide)]; exact h1 h
theorem l_ifT {A B : Prop} (h : A) : if true = true then A else B := by rw [if_pos rfl]; exact h
theorem l_ifF {A B : Prop} (h : B) : if false = true then A else B := by rw [if_neg Bool.false_ne_true]; exact h
theorem l_if2 {b : Bool} {A B : Prop} (h1 : b = true → A) (h2 : b = false → B) : if b = true then A else B := by
  cases b
  · exact l_ifF (h2 rfl)
  · exact l_ifT (h1 rfl)
theorem sqL (h : H p = some (.lst xs)) : SqL K H p xs := .inl (.inl h)
theorem sqT (h : H p = some (.tup xs)) : SqT K H p xs := .inl (.inl h)
end
end Tq
namespace Tq
open PySem PySem.Spec PyProof.Rows L2
theorem atI_some {α : Type} {xs : List α} {i : Int} (h0 : 0 ≤ i) (h1 : i < xs.length) : ∃ x, atI xs i = some x ∧ xs[i.toNat]? = some x := by
  have l : i.toNat < xs.length := by omega
  refine ⟨xs[i.toNat], ?_, List.getElem?_eq_getElem l⟩
  unfold atI ixN
  rw [if_pos h0, if_pos h1]
  exact List.getElem?_eq_getElem l
theorem atI_map {α β : Type} {f : α → β} {xs : List α} {i : Int} (h0 : 0 ≤ i) (h1 : i < xs.length) : ∃ x, atI (xs.map f) i = some (f x) ∧ xs[i.toNat]? = some x := by
  obtain ⟨y, e1, e2⟩ := atI_some (xs := xs.map f) h0 (by rw [List.length_map]; exact h1)
  rw [List.getElem?_map] at e2
  cases e : xs[i.toNat]? with
  | none => rw [e] at e2; cases e2
  | some x =>
    rw [e] at e2
    cases e2
    exact ⟨x, e1, rfl⟩
theorem fmod_lt {i j : Int} (h : 0 ≤ i) (hj : 0 < j) : 0 ≤ i.fmod j ∧ i.fmod j < j := by
  rw [Int.fmod_eq_emod_of_nonneg i (Int.le_of_lt hj)]
  exact ⟨Int.emod_nonneg i (by omega), Int.emod_lt_of_pos i hj⟩
theorem fdiv_nn {i j : Int} (h : 0 ≤ i) (hj : 0 < j) : 0 ≤ i.fdiv j := by
  rw [Int.fdiv_eq_ediv_of_nonneg i (Int.le_of_lt hj)]
  exact Int.ediv_nonneg h (by omega)
theorem abs_nn (i : Int) : 0 ≤ (if i < 0 then -i else i) := by split <;> omega
theorem max_eq (i j : Int) : (if j > i then j else i) = max i j := by
  rw [Int.max_def]; split <;> split <;> omega
end Tq
namespace Tq
open PySem PySem.Spec PyProof.Rows L2
/-! ### texts in ascending order -/
abbrev tl (x y : Str) : Prop := x.cps.toList < y.cps.toList
theorem tl_irrefl (x : Str) : ¬ tl x x := List.lt_irrefl _
theorem tl_trans {x y z : Str} (a : tl x y) (b : tl y z) : tl x z := List.lt_trans a b
theorem tl_tri (x y : Str) : tl x y ∨ x = y ∨ tl y x := by
  by_cases a : tl x y
  · exact .inl a
  · by_cases b : tl y x
    · exact .inr (.inr b)
    · refine .inr (.inl ?_)
      have e : x.cps.toList = y.cps.toList := List.le_antisymm (List.not_lt.mp b) (List.not_lt.mp a)
      cases x; cases y
      simpa using Array.toList_inj.mp e
theorem sortedS_pw : ∀ {ys : List Str}, sortedS ys = true → ys.Pairwise (fun a b => ¬ tl b a)
  | [], _ => .nil
  | [x], _ => by simp
  | x :: y :: r, h => by
    have h1 : (!ltCps y.cps.toList x.cps.toList && risingS y r) = true := h
    rw [Bool.and_eq_true, Bool.not_eq_true', ltCps_eq, decide_eq_false_iff_not] at h1
    have ih := sortedS_pw (ys := y :: r) h1.2
    refine List.pairwise_cons.mpr ⟨fun z m => ?_, ih⟩
    rcases List.mem_cons.mp m with e | e
    · rw [e]; exact h1.1
    · have h2 := (List.pairwise_cons.mp ih).1 z e
      intro c
      rcases tl_tri x y with d | d | d
      · exact h2 (tl_trans c d)
      · exact h2 (d ▸ c)
      · exact h1.1 d
/-- strictly ascending -/
abbrev Up (ys : List Str) : Prop := ys.Pairwise tl
theorem up_of {ys : List Str} (h : sortedS ys = true) (n : ys.Nodup) : Up ys := by
  have a := sortedS_pw h
  refine (a.and n).imp fun {x y} h => ?_
  rcases tl_tri x y with d | d | d
  · exact d
  · exact absurd d h.2
  · exact absurd d h.1
theorem up_nd {ys : List Str} (h : Up ys) : ys.Nodup := List.Pairwise.imp (S := fun x y => x ≠ y) (fun {x y} (d : tl x y) (e : x = y) => tl_irrefl y (e ▸ d)) h
/-- two ascending lists with the same members are one -/
theorem up_one : ∀ {xs ys : List Str}, Up xs → Up ys → (∀ z, z ∈ xs ↔ z ∈ ys) → xs = ys
  | [], [], _, _, _ => rfl
  | [], y :: r, _, _, h => absurd ((h y).mpr List.mem_cons_self) (by simp)
  | x :: r, [], _, _, h => absurd ((h x).mp List.mem_cons_self) (by simp)
  | x :: r, y :: t, hx, hy, h => by
    have hx' := List.pairwise_cons.mp hx
    have hy' := List.pairwise_cons.mp hy
    have e : x = y := by
      rcases List.mem_cons.mp ((h x).mp List.mem_cons_self) with e | e
      · exact e
      · rcases List.mem_cons.mp ((h y).mpr List.mem_cons_self) with e2 | e2
        · exact e2.symm
        · exact absurd (tl_trans (hx'.1 y e2) (hy'.1 x e)) (tl_irrefl x)
    subst e
    rw [up_one (xs := r) (ys := t) hx'.2 hy'.2 fun z => ?_]
    constructor
    · intro m
      rcases List.mem_cons.mp ((h z).mp (List.mem_cons_of_mem _ m)) with e | e
      · exact absurd (hx'.1 z m) (by rw [e]; exact tl_irrefl x)
      · exact e
    · intro m
      rcases List.mem_cons.mp ((h z).mpr (List.mem_cons_of_mem _ m)) with e | e
      · exact absurd (hy'.1 z m) (by rw [e]; exact tl_irrefl x)
      · exact e
/-- ys is xs in ascending order, each once -/
structure IsAsc (ys xs : List Str) : Prop where
  up : Up ys
  mem : ∀ z, z ∈ ys ↔ z ∈ xs
theorem isAsc_of {ys xs : List Str} (p : ys.Perm (once xs)) (s : sortedS ys = true) : IsAsc ys xs :=
  ⟨up_of s (p.nodup_iff.mpr (once_nd xs)), fun z => (p.mem_iff).trans (once_mem xs z)⟩
theorem IsAsc.self {ys : List Str} (h : Up ys) : IsAsc ys ys := ⟨h, fun _ => Iff.rfl⟩
theorem IsAsc.one {ys zs xs : List Str} (a : IsAsc ys xs) (b : IsAsc zs xs) : ys = zs := up_one a.up b.up fun z => (a.mem z).trans (b.mem z).symm
theorem IsAsc.len {ys xs : List Str} (a : IsAsc ys xs) : ys.length ≤ xs.length := by
  have e : ys.Perm (once xs) := (List.perm_ext_iff_of_nodup (up_nd a.up) (once_nd xs)).mpr fun z => (a.mem z).trans (once_mem xs z).symm
  rw [e.length_eq]
  exact once_len xs
/-! ### what a text is [20] -/
structure IsText (z : Str) : Prop where
  len : z.length ≤ 12
  ok : ∀ c ∈ z.cps.toList, 32 ≤ c ∧ c ≤ 126 ∧ c ≠ 34 ∧ c ≠ 37
/-! ### the tape -/
section
variable {K : PySem.W.Frag} {H H' : Hp} {t a p : Addr} {o u : HO}
theorem Tape.same (h : Tape H t a) (e : Same H H') : Tape H' t a := by
  obtain ⟨ns, p, c, d, n, h1, h2, h3, h4, h5⟩ := h
  exact ⟨ns, p, c, d, n, h1, h2, h3, e _ _ h4, e _ _ h5⟩
theorem Tape.ne (h : Tape H t a) (n : H p = none) : p ≠ t ∧ p ≠ a := by
  obtain ⟨ns, q, c, d, n', h1, h2, h3, h4, h5⟩ := h
  exact ⟨(ne_of_none h5 n).symm, (ne_of_none h4 n).symm⟩
theorem Tape.put (h : Tape H t a) (n1 : p ≠ t) (n2 : p ≠ a) : Tape (L2.upd H p u) t a := by
  obtain ⟨ns, q, c, d, n', h1, h2, h3, h4, h5⟩ := h
  exact ⟨ns, q, c, d, n', h1, h2, h3, by rw [upd_ne n2.symm]; exact h4, by rw [upd_ne n1.symm]; exact h5⟩
theorem new_same (h : H p = none) : Same H (L2.upd H p o) := fun b x e => by
  rw [upd_ne (ne_of_none e h)]
  exact e
end
end Tq
namespace Tq
open PySem PySem.Spec PyProof.Rows L2
theorem mul1_list (c : Nat) (n : Int) : (Txt.mul ⟨#[c]⟩ n).cps.toList = List.replicate n.toNat c := mul_one_list c n
theorem mul1_len (c : Nat) (n : Int) : (Txt.mul ⟨#[c]⟩ n).length = n.toNat := by
  have e := congrArg List.length (mul1_list c n)
  rw [List.length_replicate, Array.length_toList] at e
  exact e
theorem app_len (x y : Str) : (x ++ y).length = x.length + y.length := Array.size_append
theorem app_list (x y : Str) : (x ++ y).cps.toList = x.cps.toList ++ y.cps.toList := Array.toList_append
theorem one_len (c : Nat) : (⟨#[c]⟩ : Str).length = 1 := rfl
theorem fits {n : Nat} (h : n ≤ 1000000) : n ≤ sizeLine := Nat.le_trans h (by decide)
theorem fits_lt {n : Nat} (h : n < 1000000) : n < sizeLine := Nat.lt_of_lt_of_le h (by decide)
end Tq
namespace Tq
open PySem PySem.Spec PyProof.Rows L2
section
variable {X : Cx} {K : PySem.W.Frag} {H : Hp} {Q : VK} {i j : Int} {σ : L2.St} {a p : Addr} {x y v : V} {xs ys : List V} {ta tb te : TE} {t u : TT} {D : Ends} {A B : TS} {tr : TA} {g : TG}
theorem l_lc {wi : TI} {vs : List Nat} (q : wi σ H fun J H1 => ∀ D, H1 D = none → ∃ W : Nat → Nat → Hp → Prop, (∃ m, W 0 m (upd H1 D (.lst []))) ∧ ∀ i m H, W i m H →
  (J.stop i H ∧ Q (.ref D) H) ∨ (J.go i H ∧ ∃ Nx : Hp → Prop, (∀ H', Nx H' → ∃ m', m' < m ∧ W (i + 1) m' H') ∧ ∀ x H', J.yld i H x H' → g x (wipe σ vs) H' fun σ2 H2 => wipe σ2 vs = wipe σ vs ∧ t σ2 H2 fun b H3 =>
    if b = true then te σ2 H3 fun y H4 => ∃ acc, H4 D = some (.lst acc) ∧ acc.length < sizeLine ∧ Nx (upd H4 D (.lst (acc ++ [y]))) else Nx H3)) : tLc wi g t te vs σ H Q := q
theorem l_for {wi : TI} (q : wi σ H fun J H1 => ∃ W : Nat → Nat → L2.St → Hp → Prop, (∃ m, W 0 m σ H1) ∧ ∀ i m σ H, W i m σ H →
  (J.stop i H ∧ D.nx σ H) ∨ (J.go i H ∧ ∃ N : L2.St → Hp → Prop, (∀ σ' H', N σ' H' → ∃ m', m' < m ∧ W (i + 1) m' σ' H') ∧ ∀ x H', J.yld i H x H' → g x σ H' fun σ2 H2 => A { D with nx := N, ct := N, bk := D.nx } σ2 H2)) : tFor wi g A D σ H := q
theorem l_rng1 {R : It → Hp → Prop} (q : tr σ H fun vs H1 => ∃ j : Int, vs = [.int j] ∧ -(2 ^ 62) ≤ j ∧ j < 2 ^ 62 ∧ R (Itr 0 j.toNat) H1) : iRng1 tr σ H R := q
theorem l_ilist {R : It → Hp → Prop} (q : ta σ H fun x H1 => ∃ a, x = .ref a ∧ (∃ xs, SqL K H1 a xs) ∧ R (Itl K a) H1) : iList K ta σ H R := q
theorem l_itup {R : It → Hp → Prop} (q : ta σ H fun x H1 => ∃ a, x = .ref a ∧ (∃ xs, SqT K H1 a xs) ∧ R (Itt K a) H1) : iTup K ta σ H R := q
theorem l_yes {R : Bool → Hp → Prop} (q : R true H) : tYes σ H R := q
theorem l_in {z : Str} {zs : List Str} {neg : Bool} (h : SqL K H p (zs.map V.str) ∨ SqT K H p (zs.map V.str)) (q : Q (.bl (if neg then !decide (z ∈ zs) else decide (z ∈ zs))) H) : rIn K neg (.str z) (.ref p) H Q := by
  have e : inV (.str z) (zs.map V.str) = decide (z ∈ zs) := by
    unfold inV
    rw [List.any_map]
    by_cases m : z ∈ zs
    · rw [decide_eq_true m]
      exact List.any_eq_true.mpr ⟨z, m, by simp [eqV]⟩
    · rw [decide_eq_false m]
      refine List.any_eq_false.mpr fun y hy c => m ?_
      have : y = z := by simpa [eqV] using c
      exact this ▸ hy
  refine ⟨p, _, rfl, h, rfl, ?_, ?_⟩
  · rw [List.all_map]; exact List.all_eq_true.mpr fun _ _ => rfl
  · rw [e]; exact q
theorem strOk_text {z : Str} (h : IsText z) : PyData.strOk z = true := by
  unfold PyData.strOk
  rw [← Array.all_toList, List.all_eq_true]
  intro c m
  have := h.ok c m
  exact decide_eq_true (by omega)
/-- == of two tuples of texts -/
theorem l_eqT {q1 q2 : Addr} {zs us : List Str} (h1 : SqT K H q1 (zs.map V.str)) (h2 : SqT K H q2 (us.map V.str)) (o1 : ∀ z ∈ zs, PyData.strOk z = true) (o2 : ∀ z ∈ us, PyData.strOk z = true) (q : Q (.bl (decide (zs = us))) H) : rEqD K (.ref q1) (.ref q2) H Q := by
  have da : ∀ l : List Str, DpAll K H (l.map V.str) (l.map PyData.str) := fun l => by
    induction l with
    | nil => exact .nil
    | cons x r ih => exact .cons (.str x) ih
  have cl : ∀ l : List Str, (∀ z ∈ l, PyData.strOk z = true) → PyData.canLayAll0 (l.map PyData.str) = true ∧ PyData.depthAll (l.map PyData.str) = 0 := fun l => by
    induction l with
    | nil => intro _; exact ⟨rfl, rfl⟩
    | cons x r ih =>
      intro h
      obtain ⟨a, b⟩ := ih fun z m => h z (List.mem_cons_of_mem _ m)
      have c := h x List.mem_cons_self
      rw [List.map_cons]
      constructor
      · show (PyData.canLay0 (.str x) && PyData.canLayAll0 (r.map PyData.str)) = true
        rw [a]
        show (PyData.strOk x && true) = true
        rw [c]; rfl
      · show max (PyData.depth (.str x)) (PyData.depthAll (r.map PyData.str)) = 0
        rw [b]; rfl
  have sh : ∀ l : List Str, (∀ z ∈ l, PyData.strOk z = true) → SeqAt.shaped (.tuple (l.map PyData.str)) = true := fun l h => by
    obtain ⟨a, b⟩ := cl l h
    show (PyData.canLayAll0 (l.map PyData.str) && decide (PyData.depthAll (l.map PyData.str) + 1 ≤ 64)) = true
    rw [a, b]; rfl
  have ev : ∀ l r : List Str, PyData.eqvAll (l.map PyData.str) (r.map PyData.str) = decide (l = r) := fun l => by
    induction l with
    | nil => intro r; cases r <;> simp [PyData.eqvAll]
    | cons x l ih =>
      intro r
      cases r with
      | nil => simp [PyData.eqvAll]
      | cons y r => rw [List.map_cons, List.map_cons, PyData.eqvAll, PyData.eqv, ih r]; by_cases e : x = y <;> simp [e]
  refine ⟨.tuple (zs.map .str), .tuple (us.map .str), .tup h1 (da zs), .tup h2 (da us), sh zs o1, sh us o2, ?_⟩
  have e : PyData.eqv (.tuple (zs.map PyData.str)) (.tuple (us.map PyData.str)) = decide (zs = us) := ev zs us
  rw [e]; exact q
end
end Tq
namespace Tq
open PySem PySem.Spec PyProof.Rows L2
/-! ### the rules that speak of the written part, told over K -/
section
variable {X : Cx} {K : PySem.W.Frag} {w : World} {tg e : Expr} {te : TE}
theorem k_len (h : X.K = K) : CallR X (.builtin "len") (rLenQ K) := h ▸ c_len
theorem k_list (h : X.K = K) : CallR X (.type "list") (rListQ K) := h ▸ c_list
theorem k_tuple (h : X.K = K) : CallR X (.type "tuple") (rTupQ K) := h ▸ c_tuple
theorem k_ixL (h : X.K = K) : IxR X (rIxL K) := h ▸ ix_list
theorem k_ixT (h : X.K = K) : IxR X (rIxT K) := h ▸ ix_tup
theorem k_slL (h : X.K = K) : SlR X (rSlL K) := h ▸ sl_list
theorem k_slT (h : X.K = K) : SlR X (rSlT K) := h ▸ sl_tup
theorem k_in (h : X.K = K) : OpR X (compareOp .In) (rIn K false) := h ▸ op_in_seq
theorem k_notIn (h : X.K = K) : OpR X (compareOp .NotIn) (rIn K true) := h ▸ op_notIn_seq
theorem k_eqD (h : X.K = K) (hu : X.A.units + 64 < cLine) : OpR X (compareOp .Eq) (rEqD K) := h ▸ op_eqD hu
theorem k_neD (h : X.K = K) (hu : X.A.units + 64 < cLine) : OpR X (compareOp .NotEq) (rNeD K) := h ▸ op_neD hu
theorem k_set (h : X.K = K) (h2 : X.w = w) (hc : X.calm = true) : CallR X (.type "set") (rSetT K w) := h ▸ h2 ▸ cr_setT hc
theorem k_sorted (h2 : X.w = w) (hc : X.calm = true) : CallR X (.builtin "sorted") (rSortT w) := h2 ▸ cr_sortT hc
theorem k_sortedL (h : X.K = K) : CallR X (.builtin "sorted") (rSortedS K) := h ▸ cr_sortedS
theorem k_inT (h2 : X.w = w) : OpR X (compareOp .In) (rInT w false) := h2 ▸ op_inT
theorem k_notInT (h2 : X.w = w) : OpR X (compareOp .NotIn) (rInT w true) := h2 ▸ op_notInT
theorem k_isi (h : X.K = K) : CallR X (.builtin "isinstance") (rIsi K) := h ▸ call_isi
theorem k_piL (h : X.K = K) (he : PE X e te) : PI X tg e (iList K te) := h ▸ pi_list he
theorem k_piT (h : X.K = K) (he : PE X e te) : PI X tg e (iTup K te) := h ▸ pi_tup he
end
end Tq
namespace Tq
open PySem PySem.Spec PyProof.Rows L2
section
variable {K : PySem.W.Frag} {H : Hp} {Q : VK} {p : Addr} {x : V} {xs : List V}
theorem ty_T (h : SqT K H p xs) : TyX K H (.ref p) (.type "tuple") := by
  rcases h with (h | ⟨o, h⟩) | ⟨o, its, n, h1, h2, _⟩
  · exact .base (.tup h)
  · exact .fTuple h
  · exact .kTuple h1 h2
theorem l_isi {t n : String} {b : Bool} (ty : TyX K H x (.type t)) (h : kitB t n = some b) (q : Q (.bl b) H) : rIsi K [x, .ty n] H Q := ⟨x, _, _, _, b, rfl, .ty n, ty, kit_ty h, q⟩
theorem kit_TT : kitB "tuple" "tuple" = some true := by decide +kernel
theorem kit_SS : kitB "str" "str" = some true := by decide +kernel
theorem kit_TS : kitB "tuple" "str" = some false := by decide +kernel
theorem kit_NS : kitB "NoneType" "str" = some false := by decide +kernel
theorem l_isTT (h : SqT K H p xs) (q : Q (.bl true) H) : rIsi K [.ref p, .ty "tuple"] H Q := l_isi (ty_T h) kit_TT q
theorem l_isSS {z : Str} (q : Q (.bl true) H) : rIsi K [.str z, .ty "str"] H Q := l_isi (.base (.str z)) kit_SS q
theorem l_isTS (h : SqT K H p xs) (q : Q (.bl false) H) : rIsi K [.ref p, .ty "str"] H Q := l_isi (ty_T h) kit_TS q
theorem l_isNS (q : Q (.bl false) H) : rIsi K [.non, .ty "str"] H Q := l_isi (.base .non) kit_NS q
end
end Tq
namespace Tq
theorem l_ifNT {A B : Prop} (h : B) : if (!true) = true then A else B := h
theorem l_ifNF {A B : Prop} (h : A) : if (!false) = true then A else B := h
end Tq
namespace Tq
open PySem PySem.Spec PyProof.Rows L2
/-- a def of the text, by what the top has left -/
def df_mk {K : PySem.W.Frag} {h : Heap} {mg : Str → Option Value} {x : Str} {st : Stmt} {ps : List Str} (X : K.In h) (G : h.Ns mainGlobals mg) {f : Addr} {od an : Option Addr} {sl : Array (Option Value)} {oc kV dc pm cd ct : Value}
    (a : PySem.W.nsIn K mainGlobals x = some (some (.ref f))) (l : K.lookup f = some ⟨oc, od, .func (PySem.W.fnOf x x (defArgs st) (defBody st) (defScope st) .none kV dc pm an cd ct), sl⟩) (c : PySem.W.codeIn K cd x = true) (k : PySem.W.keepIn K (.ref f) = true)
    (b : ∀ (kV doc pm : Value) (an : Option Addr) (cdv ct : Value) (us : List Value), us.length = ps.length → bindArgs (PySem.W.fnOf x x (defArgs st) (defBody st) (defScope st) .none kV doc pm an cdv ct) ⟨us, []⟩ = pure (ps.zip us)) : Df K mg x st ps :=
  ⟨f, _, fun_mk l c k, PySem.W.mg_of X G a, (fun_mk (x := x) (qual := x) (st := st) l c k).binds b⟩
end Tq
namespace Tq
open PySem PySem.Spec PyProof.Rows L2
/-! ### texts with a number -/
abbrev numS (k : Nat) : Str := Str.ofString (toString (k : Int))
theorem numS_list (k : Nat) : (numS k).cps.toList = (Nat.toDigits 10 k).map Char.toNat := by
  show (Str.ofString (toString (k : Int))).cps.toList = _
  rw [Str.ofString_eq_toList, Int.toString_eq_repr]
  show ((Int.repr (k : Int)).toList.map Char.toNat).toArray.toList = _
  have e : Int.repr (k : Int) = Nat.repr k := rfl
  rw [e, Nat.repr_eq_ofList_toDigits]
  simp
theorem numS_inj {i j : Nat} (h : numS i = numS j) : i = j := by
  have e : (Nat.toDigits 10 i).map Char.toNat = (Nat.toDigits 10 j).map Char.toNat := by rw [← numS_list, ← numS_list, h]
  have e2 : Nat.toDigits 10 i = Nat.toDigits 10 j := by
    refine List.map_inj_right (f := Char.toNat) (fun a b h => ?_) |>.mp e
    exact Char.toNat_inj.mp h
  rw [← Nat.ofDigitChars_toDigits (b := 10) (n := i) (by decide) (by decide), e2, Nat.ofDigitChars_toDigits (by decide) (by decide)]
theorem numS_len {k : Nat} (h : k < 100000) : (numS k).length ≤ 5 := toString_length_le (by omega) (by decide) (by omega)
theorem numS_ok (k : Nat) : ∀ c ∈ (numS k).cps.toList, 48 ≤ c ∧ c ≤ 57 := by
  intro c hc
  rw [numS_list] at hc
  obtain ⟨d, hd, rfl⟩ := List.mem_map.mp hc
  have := Nat.isDigit_of_mem_toDigits (by decide) (by decide) hd
  simp only [Char.isDigit, Bool.and_eq_true, decide_eq_true_eq] at this
  have h1 := this.1; have h2 := this.2
  constructor
  · exact h1
  · exact h2
/-- the letter and a number -/
def nm (z : Str) (k : Nat) : Str := z ++ numS k
theorem nm_inj {z : Str} {i j : Nat} (h : nm z i = nm z j) : i = j := by
  refine numS_inj ?_
  have e : z.cps ++ (numS i).cps = z.cps ++ (numS j).cps := congrArg Str.cps h
  have e2 := (Array.append_right_inj z.cps).mp e
  generalize numS i = a at e2 ⊢
  generalize numS j = b at e2 ⊢
  cases a; cases b
  simp only at e2
  rw [e2]
theorem nm_len {z : Str} {k : Nat} (h : k < 100000) : (nm z k).length ≤ z.length + 5 := by
  unfold nm
  rw [app_len]
  have := numS_len h
  omega
theorem strOk_app {x y : Str} (a : PyData.strOk x = true) (b : PyData.strOk y = true) : PyData.strOk (x ++ y) = true := by
  unfold PyData.strOk at *
  rw [← Array.all_toList] at *
  rw [app_list, List.all_append, a, b]; rfl
theorem strOk_num (k : Nat) : PyData.strOk (numS k) = true := by
  unfold PyData.strOk
  rw [← Array.all_toList, List.all_eq_true]
  intro c m
  have := numS_ok k c m
  exact decide_eq_true (by omega)
theorem strOk_nm {z : Str} (h : PyData.strOk z = true) (k : Nat) : PyData.strOk (nm z k) = true := strOk_app h (strOk_num k)
theorem empty_app (z : Str) : Str.empty ++ z = z := by
  have : (Str.empty ++ z).cps = z.cps := by
    show #[] ++ z.cps = z.cps
    simp
  generalize Str.empty ++ z = a at this ⊢
  cases a; cases z
  simp only at this
  rw [this]
/-- of the letter and 1, 2, .. n those that are not in xs -/
def named (z : Str) (xs : List Str) (n : Nat) : List Str := ((List.range' 1 n).map (nm z)).filter fun t => !decide (t ∈ xs)
theorem named_succ (z : Str) (xs : List Str) (n : Nat) : named z xs (n + 1) = named z xs n ++ (if nm z (n + 1) ∈ xs then [] else [nm z (n + 1)]) := by
  unfold named
  rw [List.range'_concat, List.map_append, List.filter_append]
  congr 1
  rw [show 1 + 1 * n = n + 1 by omega]
  by_cases h : nm z (n + 1) ∈ xs <;> simp [h]
theorem named_add (z : Str) (xs : List Str) (n k : Nat) : ∃ r, named z xs (n + k) = named z xs n ++ r := by
  induction k with
  | zero => exact ⟨[], by simp⟩
  | succ k ih =>
    obtain ⟨r, e⟩ := ih
    rw [← Nat.add_assoc, named_succ, e]
    exact ⟨_, List.append_assoc ..⟩
/-- so many are in xs at most -/
theorem named_len (z : Str) (xs : List Str) (n : Nat) : n ≤ (named z xs n).length + xs.length := by
  have nd : (((List.range' 1 n).map (nm z)).filter fun t => decide (t ∈ xs)).Nodup := by
    refine List.Pairwise.filter _ ?_
    refine List.Pairwise.map _ (fun a b (h : a ≠ b) e => h (nm_inj e)) (List.nodup_range' (s := 1) (n := n))
  have sub : (((List.range' 1 n).map (nm z)).filter fun t => decide (t ∈ xs)) ⊆ xs := by
    intro t m
    exact of_decide_eq_true (List.mem_filter.mp m).2
  have l := List.Nodup.length_le_of_subset nd sub
  have s : ∀ l : List Str, l.length = (l.filter fun t => decide (t ∈ xs)).length + (l.filter fun t => !decide (t ∈ xs)).length := fun l => by
    induction l with
    | nil => rfl
    | cons a r ih =>
      by_cases h : a ∈ xs
      · simp [h]; omega
      · simp [h]; omega
  have s2 := s ((List.range' 1 n).map (nm z))
  rw [List.length_map, List.length_range'] at s2
  unfold named
  omega
/-- the first m of them -/
def firstN (z : Str) (m : Nat) (xs : List Str) : List Str := (named z xs (m + xs.length)).take m
theorem firstN_of {z : Str} {m n : Nat} {xs : List Str} (h : (named z xs n).length = m) : named z xs n = firstN z m xs := by
  unfold firstN
  rcases Nat.le_total n (m + xs.length) with l | l
  · obtain ⟨k, e⟩ := Nat.le.dest l
    obtain ⟨r, er⟩ := named_add z xs n k
    rw [← e, er, ← h, List.take_left]
  · obtain ⟨k, e⟩ := Nat.le.dest l
    obtain ⟨r, er⟩ := named_add z xs (m + xs.length) k
    rw [e] at er
    have l1 := named_len z xs (m + xs.length)
    have l2 : (named z xs (m + xs.length)).length + r.length = m := by rw [← List.length_append, ← er, h]
    have r0 : r = [] := List.eq_nil_of_length_eq_zero (by omega)
    rw [er, r0, List.append_nil, List.take_of_length_le (by omega)]
theorem firstN_len (z : Str) (m : Nat) (xs : List Str) : (firstN z m xs).length = m := by
  unfold firstN
  rw [List.length_take]
  have := named_len z xs (m + xs.length)
  omega
theorem firstN_ok {z : Str} {m : Nat} {xs : List Str} : ∀ t ∈ firstN z m xs, ∃ k, t = nm z k ∧ k ≤ m + xs.length := by
  intro t ht
  have h := (List.mem_filter.mp (List.mem_of_mem_take ht)).1
  obtain ⟨k, hk, rfl⟩ := List.mem_map.mp h
  have := List.mem_range'_1.mp hk
  exact ⟨k, rfl, by omega⟩
end Tq
namespace Tq
open PySem PySem.Spec PyProof.Rows L2
/-- a def of one parameter and one by its name alone, whose default is () -/
structure Dk (K : PySem.W.Frag) (mg : Str → Option Value) (x : Str) (st : Stmt) (a k : Str) where
  f : Addr
  fd : FuncData
  e0 : Addr
  F : FunD K x x (defArgs st) (defBody st) (defScope st) [] [(k, .ref e0)] f fd
  g : mg x = some (.ref f)
  et : ∀ H : Hp, SqT K H e0 []
  b : ∃ ds, Vals [V.ref e0] ds ∧ Binds K fd [a, k] ds
  kb : KBn K fd [a, k] 1 [k] (fun us ws => us ++ ws) (fun vs zs => vs ++ zs)
def dk_mk {K : PySem.W.Frag} {h : Heap} {mg : Str → Option Value} {x a k : Str} {st : Stmt} (X : K.In h) (G : h.Ns mainGlobals mg) {f kd ke : Addr} {od an : Option Addr} {sl : Array (Option Value)} {oc dc pm cd ct : Value} {ko : Obj} {n : Nat}
    (ha : PySem.W.nsIn K mainGlobals x = some (some (.ref f))) (l : K.lookup f = some ⟨oc, od, .func (PySem.W.fnOf x x (defArgs st) (defBody st) (defScope st) .none (.ref kd) dc pm an cd ct), sl⟩) (c : PySem.W.codeIn K cd x = true) (kp : PySem.W.keepIn K (.ref f) = true)
    (hn : PySem.W.nsIn K kd k = some (some (.ref ke))) (ho : K.lookup ke = some ko) (ht : ko.cls = .type "tuple") (hd : ko.data = .seq #[] n)
    (h1 : ∀ (D : Addr) (doc pm : Value) (an : Option Addr) (cdv ct : Value) (us ks : List Value), us.length = 1 → ks.length = 1 →
      KwChain D (([(k, V.ref ke)].map (·.1)).zip ks) (bindArgs (PySem.W.fnOf x x (defArgs st) (defBody st) (defScope st) .none (.ref D) doc pm an cdv ct) ⟨us, []⟩) ([a, k].zip (us ++ ks)))
    (h2 : ∀ (kV doc pm : Value) (an : Option Addr) (cdv ct : Value) (us ws : List Value), us.length = 1 → ws.length = 1 →
      bindArgs (PySem.W.fnOf x x (defArgs st) (defBody st) (defScope st) .none kV doc pm an cdv ct) ⟨us, [k].zip ws⟩ = pure ([a, k].zip (us ++ ws))) : Dk K mg x st a k := by
  have F : FunD K x x (defArgs st) (defBody st) (defScope st) [] [(k, V.ref ke)] f (PySem.W.fnOf x x (defArgs st) (defBody st) (defScope st) .none (.ref kd) dc pm an cd ct) := by
    refine ⟨⟨oc, od, .none, .ref kd, dc, pm, an, cd, ct, sl, rfl, l, c, .inl ⟨rfl, rfl⟩, .inr ⟨kd, rfl, fun q hq => ?_⟩⟩, kp⟩
    rw [List.mem_singleton.mp hq]
    exact ⟨.ref ke, hn, rfl⟩
  refine ⟨f, _, ke, F, PySem.W.mg_of X G ha, fun H => .inr ⟨ko, #[], n, ho, ht, hd, Nat.zero_le _, .nil⟩, ?_, ⟨fun s us ws XI l1 l2 => .of_eq (h2 _ _ _ _ _ _ us ws l1 l2), fun r1 r2 => r1.append r2⟩⟩
  obtain ⟨ds, v, b⟩ := F.binds0 (ps := [a, k]) 1 (by simp) rfl h1
  exact ⟨ds, v, b⟩
section
variable {X : Cx} {K : PySem.W.Frag} {H : Hp} {Q : VK} {i j : Int} {σ : L2.St} {a p : Addr} {x y v : V} {xs ys : List V} {ta tb te : TE} {t u : TT} {D : Ends} {A B : TS} {tr tk : TA} {g : TG} {sp : Sp} {E : XK}
theorem l_callN {n m : Nat} {gV : List V → List V → List V} (q : tr σ H fun vs H1 => tk σ H1 fun zs H2 => vs.length = n ∧ zs.length = m ∧ sp (gV vs zs) H2 Q E) : tCallN n m sp gV E tr tk σ H Q := q
theorem l_callD {dvs : List V} (q : tr σ H fun vs H1 => sp (vs ++ dvs) H1 Q E) : tCall sp dvs E tr σ H Q := q
theorem l_andV (q : ta σ H fun x H1 => ∃ c, x = .bl c ∧ if c = true then tb σ H1 Q else Q (.bl false) H1) : tAndV ta tb σ H Q := q
theorem l_orV (q : ta σ H fun x H1 => ∃ c, x = .bl c ∧ if c = true then Q (.bl true) H1 else tb σ H1 Q) : tOrV ta tb σ H Q := q
theorem l_notV (q : ta σ H fun x H1 => ∃ c, x = .bl c ∧ Q (.bl (!c)) H1) : tNotV ta σ H Q := q
theorem l_while (W : Nat → L2.St → Hp → Prop) (m : Nat) (w0 : W m σ H) (hs : ∀ m σ H, W m σ H → t σ H fun b H1 => if b = true then ∃ N : L2.St → Hp → Prop, (∀ σ' H', N σ' H' → ∃ m', m' < m ∧ W m' σ' H') ∧ A { D with nx := N, ct := N, bk := D.nx } σ H1 else D.nx σ H1) :
    tWhile t A D σ H := ⟨W, ⟨m, w0⟩, hs⟩
theorem l_jsN {acc : Str} {R : Str → Hp → Prop} (q : R acc H) : tJs [] acc σ H R := q
theorem l_jsC {acc : Str} {ts : List TE} {R : Str → Hp → Prop} (q : te σ H fun x H1 => ∃ y : Str, x = .str y ∧ (acc ++ y).length ≤ sizeLine ∧ tJs ts (acc ++ y) σ H1 R) : tJs (te :: ts) acc σ H R := q
theorem l_fmtS (q : te σ H fun x H1 => (∃ y : Str, x = .str y ∧ y.length ≤ sizeLine ∧ Q (.str y) H1) ∨ ∃ i : Int, x = .int i ∧ i.natAbs.log2 < 1920 ∧ Q (.str (toString i)) H1) : tFmt te σ H Q := q
theorem l_rng2 {R : It → Hp → Prop} (q : tr σ H fun vs H1 => ∃ i j : Int, vs = [.int i, .int j] ∧ (-(2 ^ 62) ≤ i ∧ i < 2 ^ 62 ∧ -(2 ^ 62) ≤ j ∧ j < 2 ^ 62) ∧ R (Itr i (j - i).toNat) H1) : iRng2 tr σ H R := q
/-- != of two tuples of texts -/
theorem eqv_texts : ∀ l r : List Str, PyData.eqvAll (l.map PyData.str) (r.map PyData.str) = decide (l = r)
  | [], [] => by simp [PyData.eqvAll]
  | [], _ :: _ => by simp [PyData.eqvAll]
  | _ :: _, [] => by simp [PyData.eqvAll]
  | x :: l, y :: r => by
    rw [List.map_cons, List.map_cons, PyData.eqvAll, PyData.eqv, eqv_texts l r]
    by_cases e : x = y <;> simp [e]
theorem shaped_texts {l : List Str} (h : ∀ z ∈ l, PyData.strOk z = true) : SeqAt.shaped (.tuple (l.map PyData.str)) = true := by
  have cl : ∀ l : List Str, (∀ z ∈ l, PyData.strOk z = true) → PyData.canLayAll0 (l.map PyData.str) = true ∧ PyData.depthAll (l.map PyData.str) = 0 := fun l => by
    induction l with
    | nil => intro _; exact ⟨rfl, rfl⟩
    | cons x r ih =>
      intro h
      obtain ⟨a, b⟩ := ih fun z m => h z (List.mem_cons_of_mem _ m)
      rw [List.map_cons]
      constructor
      · show (PyData.strOk x && PyData.canLayAll0 (r.map PyData.str)) = true
        rw [a, h x List.mem_cons_self]; rfl
      · show max (PyData.depth (.str x)) (PyData.depthAll (r.map PyData.str)) = 0
        rw [b]; rfl
  obtain ⟨a, b⟩ := cl l h
  show (PyData.canLayAll0 (l.map PyData.str) && decide (PyData.depthAll (l.map PyData.str) + 1 ≤ 64)) = true
  rw [a, b]; rfl
theorem dp_texts (l : List Str) : DpAll K H (l.map V.str) (l.map PyData.str) := by
  induction l with
  | nil => exact .nil
  | cons x r ih => exact .cons (.str x) ih
theorem l_neT {q1 q2 : Addr} {zs us : List Str} (h1 : SqT K H q1 (zs.map V.str)) (h2 : SqT K H q2 (us.map V.str)) (o1 : ∀ z ∈ zs, PyData.strOk z = true) (o2 : ∀ z ∈ us, PyData.strOk z = true) (q : Q (.bl (!decide (zs = us))) H) : rNeD K (.ref q1) (.ref q2) H Q := by
  refine ⟨.tuple (zs.map .str), .tuple (us.map .str), .tup h1 (dp_texts zs), .tup h2 (dp_texts us), shaped_texts o1, shaped_texts o2, ?_⟩
  have e : PyData.eqv (.tuple (zs.map PyData.str)) (.tuple (us.map PyData.str)) = decide (zs = us) := eqv_texts zs us
  rw [e]; exact q
end
end Tq
namespace Tq
open PySem PySem.Spec PyProof.Rows L2
/-- one more of the first n -/
theorem take_step (z : Str) (xs : List Str) (n i : Nat) : (named z xs (i + 1)).take n =
    if nm z (i + 1) ∉ xs ∧ ((named z xs i).take n).length < n then (named z xs i).take n ++ [nm z (i + 1)] else (named z xs i).take n := by
  rw [named_succ]
  by_cases h : nm z (i + 1) ∈ xs
  · simp [h]
  · rw [if_neg h]
    by_cases l : (named z xs i).length < n
    · rw [if_pos ⟨h, by rw [List.take_of_length_le (by omega)]; exact l⟩, List.take_of_length_le (by rw [List.length_append, List.length_singleton]; omega), List.take_of_length_le (by omega)]
    · rw [if_neg (fun c => l (by have := c.2; rw [List.length_take] at this; omega)), List.take_append_of_le_length (by omega)]
theorem nm_def (z : Str) (k : Nat) : z ++ Str.ofString (toString (k : Int)) = nm z k := rfl
theorem log_small {i : Int} (h0 : 0 ≤ i) (h : i < 1000000) : i.natAbs.log2 < 1920 := by
  have : i.natAbs < 2 ^ 1920 := Nat.lt_of_lt_of_le (show i.natAbs < 2 ^ 20 by omega) (Nat.pow_le_pow_right (by decide) (by decide))
  by_cases e : i.natAbs = 0
  · rw [e]; decide
  · exact (Nat.log2_lt e).mpr this
end Tq
namespace Tq
open L2
theorem _root_.L2.Same.seqT {K : PySem.W.Frag} {H H' : Hp} {a : PySem.Addr} {xs : List V} (e : Same H H') (h : SqT K H a xs) : SqT K H' a xs := by
  rcases h with (h | ⟨o, h⟩) | h
  · exact .inl (.inl (e _ _ h))
  · exact .inl (.inr ⟨o, e _ _ h⟩)
  · exact .inr h
theorem But.seqT {K : PySem.W.Frag} {H H' : Hp} {t a : PySem.Addr} {xs : List V} (e : But t H H') (n : a ≠ t) (h : SqT K H a xs) : SqT K H' a xs := by
  rcases h with (h | ⟨o, h⟩) | h
  · exact .inl (.inl (e _ _ n h))
  · exact .inl (.inr ⟨o, e _ _ n h⟩)
  · exact .inr h
end Tq
namespace Tq
open L2
/-- what holds between two statements -/
theorem l_cut {A B : TS} {D : Ends} {σ : L2.St} {H : Hp} (I : L2.St → Hp → Prop) (hA : ∀ N : L2.St → Hp → Prop, (∀ σ' H', I σ' H' → N σ' H') → A { D with nx := N } σ H) (hB : ∀ σ' H', I σ' H' → B D σ' H') : tSeq A B D σ H := hA (B D) hB
end Tq
namespace Tq
open PySem PySem.Spec PyProof.Rows L2
/-! ### data of tuples -/
mutual
def Pu : PyData → Bool
  | .none => true
  | .bool _ => true
  | .int _ => true
  | .str _ => true
  | .tuple ds => PuAll ds
  | .list _ => false
  | .dict _ => false
def PuAll : List PyData → Bool
  | [] => true
  | d :: ds => Pu d && PuAll ds
end
theorem puAll_iff : ∀ {ds : List PyData}, PuAll ds = true ↔ ∀ d ∈ ds, Pu d = true
  | [] => by simp [PuAll]
  | d :: ds => by
    show (Pu d && PuAll ds) = true ↔ _
    rw [Bool.and_eq_true, puAll_iff]
    simp
/-- tuples stand as they stood -/
def TK (H H' : Hp) : Prop := ∀ b xs, Rd H b (.tup xs) → Rd H' b (.tup xs)
section
variable {K : PySem.W.Frag} {H H' H1 : Hp} {t p : Addr} {v x : V} {xs : List V} {d : PyData} {ds : List PyData} {o : HO}
theorem TK.refl : TK H H := fun _ _ h => h
theorem TK.trans (a : TK H H1) (b : TK H1 H') : TK H H' := fun c xs h => b c xs (a c xs h)
theorem TK.of_same (s : Same H H') : TK H H' := fun b xs h => by
  rcases h with h | ⟨o, h⟩
  · exact .inl (s _ _ h)
  · exact .inr ⟨o, s _ _ h⟩
theorem TK.of_but (s : But t H H') (h : H t = some (.lst xs)) : TK H H' := fun b ys r => by
  have n : b ≠ t := by
    rintro rfl
    rcases r with r | ⟨o, r⟩ <;> rw [h] at r <;> cases r
  rcases r with r | ⟨o, r⟩
  · exact .inl (s _ _ n r)
  · exact .inr ⟨o, s _ _ n r⟩
theorem TK.but (s : But t H H') (T : ∃ a, Tape H t a) : TK H H' := by
  obtain ⟨a, ns, q, c, e, _, _, _, _, _, h⟩ := T
  exact TK.of_but s h
theorem TK.put (h : H p = some (.lst xs)) : TK H (L2.upd H p o) := TK.of_but (But.upd (But.refl p H)) h
theorem TK.new (h : H p = none) : TK H (L2.upd H p o) := TK.of_same (new_same h)
theorem TK.putD {kvs : List (Key × V)} (h : H p = some (.dK kvs)) : TK H (L2.upd H p o) := fun b ys r => by
  have n : b ≠ p := by
    rintro rfl
    rcases r with r | ⟨o, r⟩ <;> rw [h] at r <;> cases r
  rcases r with r | ⟨o, r⟩
  · exact .inl (by rw [upd_ne n]; exact r)
  · exact .inr ⟨o, by rw [upd_ne n]; exact r⟩
theorem TK.sq (k : TK H H') (h : SqT K H p xs) : SqT K H' p xs := by
  rcases h with h | h
  · exact .inl (k _ _ h)
  · exact .inr h
end
end Tq
namespace L2
open PySem PySem.Spec PyProof.Rows Tq
section
variable {K : PySem.W.Frag} {H H' H1 : Hp} {t p : Addr} {v x : V} {xs : List V} {d : PyData} {ds : List PyData} {o : HO}
mutual
theorem Dp.keep (k : TK H H') : ∀ (d : PyData) (v : V), Pu d = true → Dp K H v d → Dp K H' v d
  | .none, _, _, .non => .non
  | .bool _, _, _, .bl b => .bl b
  | .int _, _, _, .int i => .int i
  | .str _, _, _, .str z => .str z
  | .tuple ds, _, p, .tup s a => .tup (k.sq s) (DpAll.keep k ds _ p a)
theorem DpAll.keep (k : TK H H') : ∀ (ds : List PyData) (vs : List V), PuAll ds = true → DpAll K H vs ds → DpAll K H' vs ds
  | [], _, _, .nil => .nil
  | d :: ds, _, p, .cons a b => by
    have q : (Pu d && PuAll ds) = true := p
    rw [Bool.and_eq_true] at q
    exact .cons (Dp.keep k d _ q.1 a) (DpAll.keep k ds _ q.2 b)
end
theorem _root_.Tq.dp_tup (h : Dp K H v (.tuple ds)) : ∃ p xs, v = .ref p ∧ SqT K H p xs ∧ DpAll K H xs ds := by
  cases h with
  | tup s a => exact ⟨_, _, rfl, s, a⟩
theorem _root_.Tq.dp_str {z : Str} (h : Dp K H v (.str z)) : v = .str z := by cases h; rfl
theorem _root_.Tq.dp_none (h : Dp K H v .none) : v = .non := by cases h; rfl
theorem _root_.Tq.dp_int {i : Int} (h : Dp K H v (.int i)) : v = .int i := by cases h; rfl
theorem _root_.Tq.dp_bool {b : Bool} (h : Dp K H v (.bool b)) : v = .bl b := by cases h; rfl
theorem DpAll.len : ∀ {xs : List V} {ds : List PyData}, DpAll K H xs ds → xs.length = ds.length
  | _, _, .nil => rfl
  | _, _, .cons _ b => congrArg (· + 1) b.len
theorem DpAll.at : ∀ {xs : List V} {ds : List PyData} {i : Nat} {x : V}, DpAll K H xs ds → xs[i]? = some x → ∃ d, ds[i]? = some d ∧ Dp K H x d
  | _, _, 0, _, .cons a _, h => by
    simp at h; subst h
    exact ⟨_, rfl, a⟩
  | _, _, i + 1, _, .cons _ b, h => by
    obtain ⟨d, e, q⟩ := DpAll.at (i := i) b (by simpa using h)
    exact ⟨d, by simpa using e, q⟩
theorem DpAll.of : ∀ {xs : List V} {ds : List PyData} {i : Nat} {d : PyData}, DpAll K H xs ds → ds[i]? = some d → ∃ x, xs[i]? = some x ∧ Dp K H x d
  | _, _, 0, _, .cons a _, h => by
    simp at h; subst h
    exact ⟨_, rfl, a⟩
  | _, _, i + 1, _, .cons _ b, h => by
    obtain ⟨d, e, q⟩ := DpAll.of (i := i) b (by simpa using h)
    exact ⟨d, by simpa using e, q⟩
theorem DpAll.snoc : ∀ {xs : List V} {ds : List PyData}, DpAll K H xs ds → Dp K H x d → DpAll K H (xs ++ [x]) (ds ++ [d])
  | _, _, .nil, h => .cons h .nil
  | _, _, .cons a b, h => .cons a (b.snoc h)
theorem DpAll.strs : ∀ {xs : List V} {zs : List Str}, DpAll K H xs (zs.map PyData.str) → xs = zs.map V.str
  | _, [], .nil => rfl
  | _, z :: zs, .cons a b => by rw [dp_str a, DpAll.strs b]; rfl
end
end L2
namespace Tq
open PySem PySem.Spec PyProof.Rows L2
/-! ### cells, rows, records [21] -/
inductive Cel where
  | null
  | txt (z : Str)
  | val (n : Str)
def Cel.d : Cel → PyData
  | .null => .none
  | .txt z => .str z
  | .val n => .tuple [.str n]
abbrev CRow := Option (List Cel)
def rowD : CRow → PyData
  | none => .none
  | some cs => .tuple (cs.map Cel.d)
def recD (R : List CRow) : PyData := .tuple (R.map rowD)
theorem cel_pu : ∀ c : Cel, Pu c.d = true
  | .null => rfl
  | .txt _ => rfl
  | .val _ => rfl
theorem cels_pu (cs : List Cel) : PuAll (cs.map Cel.d) = true := puAll_iff.mpr fun d m => by
  obtain ⟨c, _, rfl⟩ := List.mem_map.mp m
  exact cel_pu c
theorem row_pu : ∀ r : CRow, Pu (rowD r) = true
  | none => rfl
  | some cs => cels_pu cs
theorem rows_pu (R : List CRow) : PuAll (R.map rowD) = true := puAll_iff.mpr fun d m => by
  obtain ⟨c, _, rfl⟩ := List.mem_map.mp m
  exact row_pu c
theorem rec_pu (R : List CRow) : Pu (recD R) = true := rows_pu R
def Cel.txt? : Cel → Option Str
  | .txt z => some z
  | _ => none
def rowT (r : CRow) : List Str := (r.getD []).filterMap Cel.txt?
def recT (R : List CRow) : List Str := R.flatMap rowT
/-- how many cells -/
def celN (R : List CRow) : Nat := (R.map fun r => (r.getD []).length).sum
theorem recT_len (R : List CRow) : (recT R).length ≤ celN R := by
  unfold recT celN
  induction R with
  | nil => simp
  | cons r R ih =>
    rw [List.flatMap_cons, List.length_append, List.map_cons, List.sum_cons]
    have : (rowT r).length ≤ (r.getD []).length := List.length_filterMap_le ..
    omega
/-! ### the free texts -/
def fstep (fx : List Str) (acc : List Str) : Cel → List Str
  | .txt z => if z ∈ fx then acc else step1 acc z
  | _ => acc
def rowF (fx : List Str) (acc : List Str) (r : CRow) : List Str := (r.getD []).foldl (fstep fx) acc
def freeT (fx : List Str) (R : List CRow) : List Str := R.foldl (rowF fx) []
def tstep (fx : List Str) (acc : List Str) (z : Str) : List Str := if z ∈ fx then acc else step1 acc z
theorem row_fold (fx : List Str) : ∀ (cs : List Cel) (acc : List Str), cs.foldl (fstep fx) acc = (cs.filterMap Cel.txt?).foldl (tstep fx) acc
  | [], _ => rfl
  | .null :: r, acc => row_fold fx r acc
  | .val _ :: r, acc => row_fold fx r acc
  | .txt z :: r, acc => row_fold fx r (tstep fx acc z)
theorem freeT_eq (fx : List Str) (R : List CRow) : freeT fx R = (recT R).foldl (tstep fx) [] := by
  unfold freeT recT
  suffices h : ∀ (R : List CRow) (acc : List Str), R.foldl (rowF fx) acc = (R.flatMap rowT).foldl (tstep fx) acc from h R []
  intro R
  induction R with
  | nil => intro acc; rfl
  | cons r R ih =>
    intro acc
    rw [List.foldl_cons, ih, List.flatMap_cons, List.foldl_append]
    have e : rowF fx acc r = (rowT r).foldl (tstep fx) acc := row_fold fx _ acc
    rw [e]
theorem tstep_mem {fx acc : List Str} {z y : Str} : y ∈ tstep fx acc z ↔ y ∈ acc ∨ (y = z ∧ z ∉ fx) := by
  unfold tstep
  by_cases h : z ∈ fx
  · simp [h]
  · simp [h, step1_mem]
theorem tfold_mem {fx : List Str} : ∀ (zs acc : List Str) (y : Str), y ∈ zs.foldl (tstep fx) acc ↔ y ∈ acc ∨ (y ∈ zs ∧ y ∉ fx)
  | [], acc, y => by simp
  | z :: zs, acc, y => by
    rw [List.foldl_cons, tfold_mem zs, tstep_mem, List.mem_cons]
    constructor
    · rintro ((h | ⟨rfl, h⟩) | ⟨h, h2⟩)
      · exact .inl h
      · exact .inr ⟨.inl rfl, h⟩
      · exact .inr ⟨.inr h, h2⟩
    · rintro (h | ⟨h | h, h2⟩)
      · exact .inl (.inl h)
      · exact .inl (.inr ⟨h, h ▸ h2⟩)
      · exact .inr ⟨h, h2⟩
theorem tstep_nd {fx acc : List Str} {z : Str} (h : acc.Nodup) : (tstep fx acc z).Nodup := by
  unfold tstep
  split
  · exact h
  · exact step1_nd z h
theorem tfold_nd {fx : List Str} : ∀ (zs acc : List Str), acc.Nodup → (zs.foldl (tstep fx) acc).Nodup
  | [], _, h => h
  | _ :: zs, _, h => tfold_nd zs _ (tstep_nd h)
theorem tstep_len (fx acc : List Str) (z : Str) : (tstep fx acc z).length ≤ acc.length + 1 := by
  unfold tstep
  split
  · omega
  · exact step1_len acc z
theorem tfold_len {fx : List Str} : ∀ (zs acc : List Str), (zs.foldl (tstep fx) acc).length ≤ acc.length + zs.length
  | [], _ => by simp
  | z :: zs, acc => by
    have a := tfold_len (fx := fx) zs (tstep fx acc z)
    have b := tstep_len fx acc z
    rw [List.foldl_cons, List.length_cons]
    omega
theorem freeT_mem {fx : List Str} {R : List CRow} {y : Str} : y ∈ freeT fx R ↔ y ∈ recT R ∧ y ∉ fx := by
  rw [freeT_eq, tfold_mem]; simp
theorem freeT_nd (fx : List Str) (R : List CRow) : (freeT fx R).Nodup := by
  rw [freeT_eq]; exact tfold_nd _ _ List.nodup_nil
theorem freeT_len (fx : List Str) (R : List CRow) : (freeT fx R).length ≤ celN R := by
  rw [freeT_eq]
  have := tfold_len (fx := fx) (recT R) []
  have := recT_len R
  simp at *
  omega
theorem fstep_len (fx acc : List Str) (c : Cel) : (fstep fx acc c).length ≤ acc.length + 1 := by
  cases c with
  | txt z => exact tstep_len fx acc z
  | _ => exact Nat.le_succ _
theorem ffold_len {fx : List Str} : ∀ (cs : List Cel) (acc : List Str), (cs.foldl (fstep fx) acc).length ≤ acc.length + cs.length
  | [], _ => by simp
  | z :: zs, acc => by
    have a := ffold_len (fx := fx) zs (fstep fx acc z)
    have b := fstep_len fx acc z
    rw [List.foldl_cons, List.length_cons]
    omega
end Tq
namespace Tq
theorem celN_row {R : List CRow} {i : Nat} {cs : List Cel} (h : R[i]? = some (some cs)) : celN (R.take i) + cs.length ≤ celN R := by
  obtain ⟨l, e⟩ := List.getElem?_eq_some_iff.mp h
  have s : R = R.take i ++ R[i] :: R.drop (i + 1) := by rw [List.getElem_cons_drop, List.take_append_drop]
  rw [e] at s
  have : celN R = celN (R.take i) + (cs.length + celN (R.drop (i + 1))) := by
    conv => lhs; rw [s]
    unfold celN
    rw [List.map_append, List.sum_append]
    rfl
  omega
theorem celN_take (R : List CRow) (i : Nat) : celN (R.take i) ≤ celN R := by
  conv => rhs; rw [← List.take_append_drop i R]
  unfold celN
  rw [List.map_append, List.sum_append]
  omega
end Tq

namespace Tq
open PySem
def Cel.isT : Cel → Bool
  | .txt _ => true
  | _ => false
def Cel.ts : Cel → List Str
  | .txt z => [z]
  | _ => []
theorem take_ts {cs : List Cel} {j : Nat} {c : Cel} (h : cs[j]? = some c) : (cs.take (j + 1)).filterMap Cel.txt? = (cs.take j).filterMap Cel.txt? ++ c.ts := by
  rw [List.take_add_one, h, List.filterMap_append]
  cases c <;> rfl
theorem take_rowT {R : List CRow} {i : Nat} {r : CRow} (h : R[i]? = some r) : recT (R.take (i + 1)) = recT (R.take i) ++ rowT r := by
  rw [List.take_add_one, h]
  unfold recT
  rw [List.flatMap_append]
  simp
end Tq
namespace Tq
open PySem PySem.Spec PyProof.Rows L2
section
variable {prog : Program} {w : World} {A : Around} {E : Value → Shared → Prop} {s : Shared}
/-- tuple.__new__ of what can be gathered -/
theorem new_tup_of {T : String} {r d : Addr} {n : Nat} {Pv : Nat → Value → Prop} {OK : Heap → Prop} (S : PySem.W.KdlSrc prog w T r d n Pv OK) {Q₁ : Value → Shared → Prop} (calm : A.handled = none) (ok : OK s.heap) (few : n ≤ sizeLine)
    (k : ∀ (h' : Heap) (tk : Nat) (acc : Array Value), (∀ b o, s.heap.get? b = some o → h'.get? b = some o) → ItemsOf Pv acc n → Q₁ (.ref h'.objs.size) { s with heap := h'.push { cls := .type "tuple", data := .seq acc }, toks := tk }) :
    codeAny (model prog w) A (.call (.builtin "tuple.__new__") ⟨[.type "tuple", .ref r], []⟩) (wants Q₁ E) s := by
  refine codeAny_of_tree ?_
  show wpAny _ A.in1 (checkBuiltinCall "tuple.__new__" ⟨[.type "tuple", .ref r], []⟩ >>= fun _ => again (.builtin "tuple.__new__" ⟨[.type "tuple", .ref r], []⟩)) _ _ s
  refine wpAny_bind (wpAny_of_eq (F.newCall_tuple_1 _) (wpAny_pure ⟨plainId_quiet F.plain_tuple_new _, codeAny_builtin F.entry_tuple_new ?_⟩))
  rw [Around.under_plainId F.plain_tuple_new _]
  have q1 := sub_tuple_self; have q2 := init_tuple_lookup; have q3 := madeHere_tuple
  have ty : s.TypeIs (.ref r) T := S.type s ok
  have calm1 : A.in1.handled = none := calm
  wp_walk using wpAny_typeOf ty
  rw [if_neg (by rw [S.notTuple]; decide)]
  refine wpAny_bind (PySem.W.kdu_collect (A := A.in1) S calm1 ok few fun h' tk acc kp it => ?_)
  show wpAny _ _ (Builtin.Tuple.tupleExact acc.toList.toArray >>= fun v => ret v) _ _ _
  unfold Builtin.Tuple.tupleExact
  have e : acc.toList.toArray = acc := by simp
  rw [e]
  refine wpAny_bind (wpAny_newObj_type ?_ (by show acc.size ≤ sizeLine; rw [it.1]; exact few))
  exact wpAny_pure (k h' tk acc kp it)
theorem tup_of {T : String} {r d : Addr} {n : Nat} {Pv : Nat → Value → Prop} {OK : Heap → Prop} (S : PySem.W.KdlSrc prog w T r d n Pv OK) {Q : Value → Shared → Prop} (calm : A.handled = none) (ok : OK s.heap) (few : n ≤ sizeLine)
    (k : ∀ (h' : Heap) (tk : Nat) (acc : Array Value), (∀ b o, s.heap.get? b = some o → h'.get? b = some o) → ItemsOf Pv acc n → Q (.ref h'.objs.size) { s with heap := h'.push { cls := .type "tuple", data := .seq acc }, toks := tk }) :
    wpAny (model prog w) A (call (.type "tuple") [.ref r]) Q E s := by
  refine callType_codes (Q₁ := fun o z => z.TypeIs o "tuple" ∧ Q o z) F.called_tuple (F.typeCall_tuple_1 _) F.entry_object_init
    (new_tup_of (A := A.in1) S calm ok few fun h' tk acc kp it => ⟨⟨_, Heap.get?_push_size _ rfl, rfl⟩, k h' tk acc kp it⟩) fun o z hz => ?_
  exact ⟨hz.1, F.args_object_init_2 o _, object_init_meets F.called_tuple.init.lookup F.called_tuple.made (by decide) prog w A.in1 _ z ⟨hz.1, rfl, hz.2⟩⟩
end
/-- tuple(d): the keys -/
def rTupD : List V → Hp → VK → Prop := fun xs H Q => ∃ p kvs, xs = [.ref p] ∧ H p = some (.dK kvs) ∧ ∀ q, H q = none → Q (.ref q) (upd H q (.tup (kvs.map fun kv => kV kv.1)))
theorem c_tupD {X : Cx} (hc : X.calm = true) : CallR X (.type "tuple") rTupD := by
  intro pins s σ H xs us Q I r h
  obtain ⟨p, kvs, rfl, hk, q⟩ := h
  rw [Vals.ref1 r]
  obtain ⟨z, lo, vs, rk, hd⟩ := (show ObjOk X.prog X.w H s.heap p (.dK kvs) from I.hok p _ hk)
  obtain ⟨ep, hat⟩ := hd.dictAt
  have hl : kvs.length = vs.length := Paired.length rk
  refine tup_of (PySem.W.kdl_dict (knd := mixKind X.prog X.w) (kvs := vs) (ep := ep) lo) (I.ok.hd hc) hat (by rw [← hl]; exact z) fun h' tk acc kp it => ?_
  have I1 : Inv X pins σ H { s with heap := h', toks := tk } := I.kept kp
  have ml : (kvs.map fun kv => kV kv.1).length = kvs.length := List.length_map ..
  have vo : Vals (kvs.map fun kv => kV kv.1) acc.toList := by
    have al : acc.toList.length = vs.length := by simpa using it.1
    refine vals_of_at (by rw [ml, al, hl]) fun j x w h1 h2 => ?_
    obtain ⟨k, y, hky, hi⟩ := it.2 j w (by rw [← Array.getElem?_toList]; exact h2)
    have e1 : (kvs.map (·.1))[j]? = some k := by
      rw [KV.keys rk, List.getElem?_map, hky]; rfl
    have e3 : (kvs.map fun kv => kV kv.1) = (kvs.map (·.1)).map kV := by rw [List.map_map]; rfl
    rw [e3, List.getElem?_map, e1] at h1
    cases h1
    exact keyIs_rel hi
  refine ⟨.ref h'.objs.size, upd H h'.objs.size (.tup (kvs.map fun kv => kV kv.1)), I1.laid (t' := tk) (fun b u e => Heap.get?_push_of_some _ e) (Nat.le_refl _) ⟨by rw [ml]; exact z, acc.toList, vo, ?_⟩, rfl, q _ (I1.hok.fresh (Nat.le_refl _))⟩
  have := IsTup.new h' acc
  simpa using this
/-- texts as keys -/
def keysT (ks : List Str) : List (Key × V) := ks.map fun z => (Sum.inr z, V.bl true)
theorem keysT_put (ks : List Str) (z : Str) : putK (keysT ks) (Sum.inr z) (.bl true) = keysT (step1 ks z) := by
  unfold putK keysT step1
  have e : ((ks.map fun z => ((Sum.inr z : Key), V.bl true)).any fun kv => decide (kv.1 = Sum.inr z)) = decide (z ∈ ks) := by
    rw [List.any_map]
    by_cases m : z ∈ ks
    · rw [decide_eq_true m]
      exact List.any_eq_true.mpr ⟨z, m, by simp⟩
    · rw [decide_eq_false m]
      refine List.any_eq_false.mpr fun y hy c => m ?_
      have : y = z := by simpa using c
      exact this ▸ hy
  rw [e]
  by_cases m : z ∈ ks
  · rw [if_pos (decide_eq_true m), if_pos m, List.map_map]
    refine List.map_congr_left fun y _ => ?_
    simp only [Function.comp]
    by_cases e : y = z <;> simp [e]
  · rw [if_neg (by simp [m]), if_neg m, List.map_append]; rfl
theorem keysT_keys (ks : List Str) : ((keysT ks).map fun kv => kV kv.1) = ks.map V.str := by
  unfold keysT
  rw [List.map_map]; rfl
section
variable {X : Cx} {K : PySem.W.Frag} {H : Hp} {Q : VK} {i j : Int} {σ : L2.St} {a p : Addr} {x y v : V} {xs ys : List V} {ta tb te : TE}
theorem l_tupD {kvs : List (Key × V)} (h : H p = some (.dK kvs)) (q : ∀ r, H r = none → Q (.ref r) (upd H r (.tup (kvs.map fun kv => kV kv.1)))) : rTupD [.ref p] H Q := ⟨p, kvs, rfl, h, q⟩
theorem l_setD {ks : List Str} {z : Str} {R : Hp → Prop} (h : H p = some (.dK (keysT ks))) (few : ks.length < sizeLine) (q : R (upd H p (.dK (keysT (step1 ks z))))) : rSetD (.ref p) (.str z) (.bl true) H R := by
  refine ⟨p, _, rfl, DPut.k (k := Sum.inr z) h (by unfold keysT; rw [List.length_map]; exact few), ?_⟩
  rw [keysT_put]
  exact q
theorem l_orT (q : ta σ H fun x H1 => ∃ k, TruV K x H1 k ∧ if k = true then Q x H1 else tb σ H1 Q) : tOrT K ta tb σ H Q := q
theorem l_dnew (q : ∀ p, H p = none → Q (.ref p) (upd H p (.dK []))) : tDNewK σ H Q := q
end
section
variable {X : Cx} {K : PySem.W.Frag} {a b : Expr} {rest : List Expr} {ta tb : TE} {pos : Pos}
theorem k_orT (h : X.K = K) (ha : PE X a ta) (hb : PE X (.BoolOp .Or (b :: rest) pos) tb) : PE X (.BoolOp .Or (a :: b :: rest) pos) (tOrT K ta tb) := h ▸ pe_orT ha hb
end
end Tq
namespace Tq
open PySem PySem.Spec PyProof.Rows L2
/-! ### a list or tuple that is read -/
def Sq (K : PySem.W.Frag) (H : Hp) (p : Addr) (xs : List V) : Prop := SqL K H p xs ∨ SqT K H p xs
section
variable {X : Cx} {K : PySem.W.Frag} {H H' : Hp} {Q : VK} {t p : Addr} {x v : V} {xs ys : List V} {σ : L2.St} {ta tb : TE}
theorem Sq.but (h : Sq K H p xs) (b : But t H H') (n : p ≠ t) : Sq K H' p xs := by
  rcases h with h | h
  · exact .inl (b.seq n h)
  · exact .inr (b.seqT n h)
theorem Sq.same (h : Sq K H p xs) (b : Same H H') : Sq K H' p xs := by
  rcases h with h | h
  · exact .inl (b.seq h)
  · exact .inr (b.seqT h)
theorem l_lenX (h : Sq K H p ys) (q : Q (.int ys.length) H) : rLenQ K [.ref p] H Q := ⟨p, ys, rfl, h, q⟩
def rNotN' : R2 := fun x y H Q => y = .non ∧ Q (.bl (!decide (x = .non))) H
def rIsN' : R2 := fun x y H Q => y = .non ∧ Q (.bl (decide (x = .non))) H
theorem o_isN : OpR X (compareOp .Is) rIsN' := op_isN
theorem o_notN : OpR X (compareOp .IsNot) rNotN' := op_notN
theorem l_isN (q : Q (.bl (decide (x = .non))) H) : rIsN' x .non H Q := ⟨rfl, q⟩
theorem l_notN (q : Q (.bl (!decide (x = .non))) H) : rNotN' x .non H Q := ⟨rfl, q⟩
theorem l_cat {l b : Addr} {zs : List V} (h1 : H l = some (.lst xs)) (h2 : H b = some (.lst zs)) (n : xs.length + zs.length ≤ sizeLine) (q : ∀ r, H r = none → Q (.ref r) (upd H r (.lst (xs ++ zs)))) : rCat (.ref l) (.ref b) H Q := ⟨l, b, xs, zs, rfl, rfl, h1, h2, n, q⟩
/-- isinstance(cell, str) -/
theorem l_isCel {c : Cel} (h : Dp K H v c.d) (q : Q (.bl c.isT) H) : rIsi K [v, .ty "str"] H Q := by
  cases c with
  | null => rw [dp_none h]; exact l_isNS q
  | txt z => rw [dp_str h]; exact l_isSS q
  | val n =>
    obtain ⟨p, xs, rfl, s, _⟩ := dp_tup h
    exact l_isTS s q
/-- distinct texts in two lists -/
theorem few_names {ts tk : List Str} {z : Str} {n : Nat} (h : ∀ i, i + 1 < n → nm z i ∈ ts ++ tk) : n ≤ ts.length + tk.length + 1 := by
  have nd : ((List.range (n - 1)).map (nm z)).Nodup := List.Pairwise.map _ (fun a b (h : a ≠ b) e => h (nm_inj e)) List.nodup_range
  have sub : (List.range (n - 1)).map (nm z) ⊆ ts ++ tk := by
    intro y hy
    obtain ⟨i, hi, rfl⟩ := List.mem_map.mp hy
    exact h i (by have := List.mem_range.mp hi; omega)
  have l := List.Nodup.length_le_of_subset nd sub
  rw [List.length_map, List.length_range, List.length_append] at l
  omega
end
end Tq
namespace Tq
open PySem PySem.Spec PyProof.Rows L2
theorem Sq.but0 {K : PySem.W.Frag} {H H' : Hp} {p d : Addr} {xs : List V} (h : Sq K H p xs) (b : But d H H') (n : H d = none) : Sq K H' p xs := by
  have ne : ∀ {o : HO}, H p = some o → p ≠ d := fun e => ne_of_none e n
  rcases h with ((h | ⟨o, h⟩) | h) | ((h | ⟨o, h⟩) | h)
  · exact .inl (.inl (.inl (b _ _ (ne h) h)))
  · exact .inl (.inl (.inr ⟨o, b _ _ (ne h) h⟩))
  · exact .inl (.inr h)
  · exact .inr (.inl (.inl (b _ _ (ne h) h)))
  · exact .inr (.inl (.inr ⟨o, b _ _ (ne h) h⟩))
  · exact .inr (.inr h)
end Tq
namespace Tq
open PySem PySem.Spec PyProof.Rows L2
theorem But.free {t p : Addr} {H H' : Hp} (b : But t H H') (n : H' p = none) (ne : p ≠ t) : H p = none := by
  cases e : H p with
  | none => rfl
  | some o =>
    rw [b p o ne e] at n
    cases n
theorem sum_le {ks : List Int} {c : Int} (h : ∀ k ∈ ks, k ≤ c) : ks.sum ≤ c * ks.length := by
  induction ks with
  | nil => simp
  | cons k r ih =>
    have a := h k List.mem_cons_self
    have b := ih fun x m => h x (List.mem_cons_of_mem _ m)
    rw [List.sum_cons, List.length_cons, Int.natCast_add, Int.mul_add]
    omega
theorem take_sum {ks : List Int} {i : Nat} {k : Int} (h : ks[i]? = some k) : (ks.take (i + 1)).sum = (ks.take i).sum + k := by
  rw [List.take_add_one, h]
  simp
theorem celN_snoc (R : List CRow) (r : CRow) : celN (R ++ [r]) = celN R + (r.getD []).length := by
  unfold celN
  simp
theorem recT_snoc (R : List CRow) (r : CRow) : recT (R ++ [r]) = recT R ++ rowT r := by
  unfold recT
  simp
end Tq
namespace Tq
open PySem PySem.Spec PyProof.Rows L2
theorem l_nx {B : L2.St → Hp → Prop} {D : Ends} {σ : L2.St} {H : Hp} (q : B σ H) : ({ D with nx := B } : Ends).nx σ H := q
end Tq
namespace Tq
open PySem PySem.Spec PyProof.Rows L2
/-! ### a key of another kind -/
section
variable {prog : Program} {w : World} {A : Around} {E : Value → Shared → Prop} {s : Shared}
theorem key_byValue {k : Key} {v : Value} (h : keyIs k v = true) : carriedByValue v = true := by
  rcases keyIs_shape h with ⟨_, _, _, rfl⟩ | ⟨_, _, _, rfl⟩ <;> rfl
theorem key_noRef {k : Key} {v : Value} {a : Addr} (h : keyIs k v = true) : (v == Value.ref a) = false := by
  rcases keyIs_shape h with ⟨_, _, _, rfl⟩ | ⟨_, _, _, rfl⟩ <;> rfl
theorem isTuple_of {ks : List Key} {a : Addr} (h : (tupleKind (mixKind prog w)).is s.heap ks a) : ∃ items, s.heap.IsTuple a items := by
  obtain ⟨o, items, n, h1, h2, h3, _⟩ := h
  exact ⟨items, o, h1, h2, n, h3⟩
theorem find_miss {d a : Addr} {ob : Obj} {es : Array DictEntry} {ep : Nat} {ks : List Key} {n : Int} {Q : Option Nat → Shared → Prop} (hu : A.units < cLine)
    (hkey : (tupleKind (mixKind prog w)).is s.heap ks a) (ho : s.heap.get? d = some ob) (hd : ob.data = .dict es ep) (hk : ∀ e ∈ es, ∃ k, keyIs k e.key = true) (h : Q none s) :
    wpAny (model prog w) A (dictFind d (.ref a) n) Q E s := by
  have hst : ∀ v ∈ (placesWithHash es.size (fun i => es[i]?.map (·.hash)) n).filterMap (fun i => es[i]?.map (·.key)), ∃ k, keyIs k v = true := by
    intro v hv
    obtain ⟨i, _, hi⟩ := List.mem_filterMap.mp hv
    cases hei : es[i]? with
    | none => rw [hei] at hi; cases hi
    | some e =>
      rw [hei] at hi
      obtain rfl : e.key = v := by simpa using hi
      exact hk e (Array.mem_of_getElem? hei)
  have hany : ¬ (es.any fun e => e.key == Value.ref a && e.hash != n) = true := by
    rw [← Array.any_toList, List.any_eq_true]
    rintro ⟨e, hin, hc⟩
    obtain ⟨k, h1⟩ := hk e (Array.mem_toList_iff.mp hin)
    rw [key_noRef h1] at hc
    cases hc
  have hone : ¬ (((placesWithHash es.size (fun i => es[i]?.map (·.hash)) n).filterMap (fun i => es[i]?.map (·.key))) == [Value.ref a]) = true := by
    intro e
    have e2 := eq_of_beq e
    obtain ⟨k, h1⟩ := hst (.ref a) (by rw [e2]; exact List.mem_singleton.mpr rfl)
    have := key_noRef (a := a) h1
    rw [beq_self_eq_true] at this
    cases this
  have tell : ∀ {Q : Bool → Shared → Prop}, Q false s → wpAny (model prog w) A (tableMayTell (.ref a) ((placesWithHash es.size (fun i => es[i]?.map (·.hash)) n).filterMap (fun i => es[i]?.map (·.key)))) Q E s := by
    intro Q h
    unfold tableMayTell
    split
    · exact wpAny_pure h
    · refine wpAny_bind ((tupleKind (mixKind prog w)).quiet hkey ?_)
      simp only [Bool.not_true, Bool.false_eq_true, if_false]
      refine wpAny_bind ?_
      refine wpAny_forIn_list _ (fun rest r s' => s' = s ∧ r = (none, ()) ∧ ∀ v ∈ rest, carriedByValue v = true) _ ?_ ?_ _ _ ⟨rfl, rfl, fun v hv => by
        obtain ⟨k, h1⟩ := hst v hv
        exact key_byValue h1⟩
      · rintro x rest r s' ⟨rfl, rfl, hr⟩
        rw [eqIsQuiet_byValue _ (hr x List.mem_cons_self)]
        refine wpAny_bind (wpAny_pure ?_)
        simp only [Bool.not_true, Bool.false_eq_true, if_false]
        exact wpAny_pure ⟨rfl, rfl, fun v hv => hr v (List.mem_cons_of_mem _ hv)⟩
      · rintro r s' ⟨rfl, rfl, _⟩
        exact wpAny_pure h
  obtain ⟨items, ht⟩ := isTuple_of hkey
  unfold dictFind
  try with_reducible refine wpAny_holding ?_
  refine wpAny_bind (wpAny_dictEntries ho hd ?_)
  dsimp only
  rw [if_neg (show ¬ ((Value.ref a :: (placesWithHash es.size (fun i => es[i]?.map (·.hash)) n).filterMap (fun i => es[i]?.map (·.key))).all carriedByValue) = true by simp [carriedByValue])]
  rw [if_neg hany, if_neg hone]
  refine wpAny_bind (tell ?_)
  rw [if_neg (by simp)]
  refine wpAny_bind ?_
  refine wpAny_forIn_list _ (fun rest b s' => s' = s ∧ b = (none, none)) _ ?_ ?_ _ _ ⟨rfl, rfl⟩
  · rintro x rest b s' ⟨rfl, rfl⟩
    cases hex : es[x]? with
    | none => exact wpAny_pure ⟨rfl, rfl⟩
    | some e =>
      obtain ⟨k, h1⟩ := hk e (Array.mem_of_getElem? hex)
      dsimp only
      by_cases hh : (e.hash == n) = true
      · rw [if_pos hh]
        have ev : SeqAt.EqAt A s' e.key (.ref a) false := by
          rcases keyIs_shape h1 with ⟨i, t, _, e2⟩ | ⟨x, t, _, e2⟩
          · rw [e2]; exact .int_tuple i t ht hu
          · rw [e2]; exact .str_tuple x t ht hu
        refine wpAny_bind (wpAny_dictEpoch ho hd (wpAny_bind (ev _ _ _ _ (wpAny_bind (wpAny_dictEpoch ho hd ?_)))))
        show wpAny _ _ (if (ep != ep) = true then _ else _) _ E _
        rw [if_neg (by simp)]
        simp only [Bool.false_eq_true, if_false]
        refine wpAny_bind (wpAny_rule ?_)
        first | rw [if_neg (by simp)] | skip
        first
          | exact wpAny_pure ⟨rfl, rfl⟩
          | exact wpAny_bind (wpAny_pure (wpAny_pure ⟨rfl, rfl⟩))
      · rw [if_neg hh]
        exact wpAny_pure ⟨rfl, rfl⟩
  · rintro b s' ⟨rfl, rfl⟩
    exact wpAny_pure h
theorem get_miss {d a : Addr} {vs : List (Key × Value)} {ks : List Key} {Q : Option Value → Shared → Prop} (hu : A.units < cLine)
    (hkey : (tupleKind (mixKind prog w)).is s.heap ks a) (hm : s.heap.DictOf (mixKind prog w) d vs) (h : ∀ n, Q none { s with toks := s.toks + n }) :
    wpAny (model prog w) A (dictGet d (.ref a)) Q E s := by
  obtain ⟨o, es, ep, ho, _, hd, hk, _, _⟩ := hm
  unfold dictGet
  try with_reducible refine wpAny_holding ?_
  refine wpAny_bind ((tupleKind (mixKind prog w)).pyHash hu hkey (wpAny_bind (find_miss (s := { s with toks := s.toks + _ }) hu hkey ho hd (fun e he => ?_) ?_)))
  · obtain ⟨k, h1, _⟩ := hk e he
    exact ⟨k, h1⟩
  · exact wpAny_pure (h _)
theorem meets_miss {d a : Addr} (hd : (d == sysModules) = false) (dflt : Value) :
    MeetsIn prog w (Builtin.«dict.get» ⟨[.ref d, .ref a, dflt], []⟩) (fun A R s => A.in1.units < cLine ∧ ∃ ks vs, (tupleKind (mixKind prog w)).is s.heap ks a ∧ s.heap.DictOf (mixKind prog w) d vs ∧
      ∀ n, R (.ok (.ret dflt)) { s with toks := s.toks + n }) :=
  .of_wp fun A R s ⟨hu, ks, vs, hkey, hm, h⟩ => by
    show wpAny _ _ (dictGet d (.ref a) >>= _) _ _ s
    refine wpAny_bind (get_miss hu hkey hm fun n => ?_)
    show wpAny _ _ (Builtin.Dict.missed d (.ref a) >>= _) _ _ _
    exact wpAny_bind (wpAny_missed_other hd (wpAny_pure ⟨dflt, rfl, h n⟩))
end
end Tq
namespace Tq
open PySem PySem.Spec PyProof.Rows L2
/-! ### a tuple without attributes of its own: dict(t) reads it -/
def PlainT (h : Heap) (p : Addr) (xs : List V) : Prop := xs.length ≤ sizeLine ∧ ∃ its : List Value, Vals xs its ∧ ∃ n, h.get? p = some { cls := .type "tuple", data := .seq its.toArray n }
def TPO (p : Addr) (xs : List V) : HO := .ext fun h => PlainT h p xs
theorem tpo_new {w : World} {P : Program} {H : Hp} {h : Heap} {a : Addr} {xs : List V} (T : PlainT h a xs) : ObjOk P w H h a (TPO a xs) := by
  have ⟨_, its, _, n, g⟩ := T
  exact ⟨T, ⟨_, g⟩, fun _ _ ⟨z, its, r, n, g⟩ k => ⟨z, its, r, n, k _ g⟩⟩
def tTupP (tr : TA) : TE := fun σ H Q => tr σ H fun xs H1 => xs.length ≤ sizeLine ∧ ∀ p, H1 p = none → Q (.ref p) (upd H1 p (TPO p xs))
section
variable {X : Cx} {K : PySem.W.Frag} {H H1 : Hp} {Q : VK} {σ : L2.St} {a p : Addr} {x y v : V} {xs ys : List V} {ta tb te : TE} {tr : TA}
theorem pe_tupP {es : List Expr} {x1 : Pos} (h : PA X es tr) {k : Nat} : PE X (.Tuple es k x1) (tTupP tr) := by
  refine ⟨fun pins s σ H Q I hq => ?_⟩
  refine wpAny_Tuple_spliced (thn (h.run x1 pins s σ H _ I hq) fun us s1 ⟨xs, H1, I1, r, z, q⟩ => ⟨by rw [← r.length]; exact z, ?_⟩)
  have hf : H1 s1.heap.objs.size = none := I1.hok.fresh (Nat.le_refl _)
  refine ⟨.ref s1.heap.objs.size, upd H1 s1.heap.objs.size (TPO s1.heap.objs.size xs), I1.laid (t' := s1.toks) (fun b u e => Heap.get?_push_of_some _ e) (Nat.le_refl _) (tpo_new ?_), rfl, q _ hf⟩
  exact ⟨z, us, r, 0, Heap.get?_push_size _ rfl⟩
theorem l_tupP (q : tr σ H fun xs H1 => xs.length ≤ sizeLine ∧ ∀ p, H1 p = none → Q (.ref p) (upd H1 p (TPO p xs))) : tTupP tr σ H Q := q
/-- tuple(list), plain -/
def rTupP (K : PySem.W.Frag) : List V → Hp → VK → Prop := fun xs H Q => ∃ p ys, xs = [.ref p] ∧ SqL K H p ys ∧ ∀ l, H l = none → Q (.ref l) (upd H l (TPO l ys))
theorem c_tupP : CallR X (.type "tuple") (rTupP X.K) := by
  intro pins s σ H xs us Q I r h
  obtain ⟨p, ys, rfl, hq, q⟩ := h
  obtain ⟨u, rfl, rx⟩ := vals1 r
  cases rx
  obtain ⟨its, r', pl, hz⟩ := I.list hq
  have hlen := r'.length
  refine call_tuple_list pl.isList (fun h' kp => ?_) (by simp only [List.size_toArray] <;> omega)
  have I1 : Inv X pins σ H { s with heap := h' } := I.kept (t' := s.toks) kp
  have I2 : Inv X pins σ (upd H h'.objs.size (TPO h'.objs.size ys)) { s with heap := h'.push { cls := .type "tuple", data := .seq its.toArray } } :=
    I1.laid (t' := s.toks) (fun b o e => Heap.get?_push_of_some _ e) (Nat.le_refl _) (tpo_new ⟨hz, its, r', 0, Heap.get?_push_size _ rfl⟩)
  exact ⟨.ref h'.objs.size, _, I2, rfl, q _ (I1.hok.fresh (Nat.le_refl _))⟩
theorem k_tupP (h : X.K = K) : CallR X (.type "tuple") (rTupP K) := h ▸ c_tupP
/-- it is a tuple after all -/
theorem tpo_tup {pins : List (Addr × Obj)} {s : Shared} (I : Inv X pins σ H s) (g : H a = some (TPO a xs)) : Inv X pins σ (upd H a (.tup xs)) s := by
  have ⟨⟨z, its, r, n, e⟩, _⟩ := I.hok a _ g
  exact I.write (h' := s.heap) (t' := s.toks) (x := a) (e := a) (by rw [g]; trivial) (.inl rfl) (fun _ _ _ q => q) ⟨_, e⟩ ⟨z, its, r, _, e, rfl, _, rfl⟩
end
/-! ### dict(t) of a tuple of pairs -/
section
variable {X : Cx} {K : PySem.W.Frag} {H H1 : Hp} {Q : VK}
theorem pairs_at {pins : List (Addr × Obj)} {σ : L2.St} {H : Hp} {s : Shared} (I : Inv X pins σ H s) : ∀ {ps : List Addr} {kvs : List (Key × V)}, Paired (fun p kv => SqT X.K H p [kV kv.1, kv.2]) ps kvs →
    ∃ (prs : List (Key × Value)) (vps : List (Value × Value)), KV kvs prs ∧ prs.length = ps.length ∧ vps.length = ps.length ∧ ∀ (j : Nat) (k v : Value), vps[j]? = some (k, v) → ∃ b key, ps[j]? = some b ∧ PairAt s.heap b k v ∧ prs[j]? = some (key, v) ∧ keyIs key k = true
  | _, _, .nil => ⟨[], [], .nil, rfl, rfl, fun j k v e => by simp at e⟩
  | _, _, .cons (a := p) (b := kv) h t => by
    obtain ⟨prs, vps, r, hl, hl2, hp⟩ := pairs_at I t
    obtain ⟨its, rv, ht, _⟩ := I.tuple h
    obtain ⟨u, y, ei, ru, ry⟩ := vals2 rv
    subst ei
    refine ⟨(kv.1, y) :: prs, (u, y) :: vps, .cons ⟨rfl, ry⟩ r, by rw [List.length_cons, List.length_cons, hl], by rw [List.length_cons, List.length_cons, hl2], fun j k v e => ?_⟩
    cases j with
    | zero =>
      have e' : (u, y) = (k, v) := Option.some.inj e
      cases e'
      exact ⟨p, kv.1, rfl, .inl ht, rfl, kV_is (P := X.prog) (w := X.w) ru⟩
    | succ j =>
      obtain ⟨b, key, e1, e2, e3, e4⟩ := hp j k v (by simpa using e)
      exact ⟨b, key, by simpa using e1, e2, by simpa using e3, e4⟩
def rDictP (K : PySem.W.Frag) : List V → Hp → VK → Prop := fun xs H Q => ∃ (a : Addr) (ps : List Addr) (kvs : List (Key × V)), xs = [.ref a] ∧ H a = some (TPO a (ps.map V.ref)) ∧ Paired (fun p kv => SqT K H p [kV kv.1, kv.2]) ps kvs ∧
    ∀ p, H p = none → Q (.ref p) (upd (upd H a (.tup (ps.map V.ref))) p (.dK (mergeK [] kvs)))
theorem c_dictP (hcalm : X.calm = true) : CallR X (.type "dict") (rDictP X.K) := by
  intro pins s σ H xs us Q I r q
  obtain ⟨a, ps, kvs, ex, ha, hp, q⟩ := q
  subst ex
  obtain ⟨u, eu, rx⟩ := vals1 r
  subst eu
  cases rx
  obtain ⟨⟨hz, its, rv, n, hg⟩, _⟩ := I.hok a _ ha
  have ei := refs_at rv
  subst ei
  rw [List.length_map] at hz
  obtain ⟨prs, vps, rel, hl, hl2, hpr⟩ := pairs_at I hp
  have P := PairArg.tuple (prog := X.prog) (w := X.w) a (ps.map Value.ref).toArray (fun j => ps[j]?.getD 0) vps
  have I0 := tpo_tup I ha
  refine PySem.call_dict_pairs (knd := mixKind X.prog X.w) (kvs := prs) P (I.ok.hd hcalm) ⟨⟨_, _, hg, rfl, rfl, rfl⟩, by simp [hl2], fun j k v e => ?_⟩ ⟨hl.trans hl2.symm, fun j k v e => ?_⟩ (by rw [hl2]; exact hz) fun h' tk hd' kp => ?_
  · obtain ⟨b, key, e1, e2, e3, e4⟩ := hpr j k v e
    simp only [e1, Option.getD_some]
    exact ⟨by simp [e1], e2⟩
  · obtain ⟨b, key, e1, e2, e3, e4⟩ := hpr j k v e
    exact ⟨key, e3, e4⟩
  · have hm : (s.heap.objs.size == sysModules) = false := beq_eq_false_iff_ne.mpr (Nat.ne_of_gt I.big)
    have hlen : (mergeK [] kvs).length ≤ sizeLine := by
      refine Nat.le_trans (length_mergeK kvs []) ?_
      rw [List.length_nil, Nat.zero_add, rel.length, hl]
      exact hz
    exact ⟨.ref s.heap.objs.size, upd (upd H a (.tup (ps.map V.ref))) s.heap.objs.size (.dK (mergeK [] kvs)), I0.laid (t' := tk) (fun b o e => kp b o (by simp) e) (Nat.le_refl _) (show ObjOk X.prog X.w _ _ _ (.dK (mergeK [] kvs)) from ⟨hlen, hm, merged [] prs, KV.merge rel .nil, hd'⟩), rfl, q _ (I.hok.fresh (Nat.le_refl _))⟩
theorem k_dictP (h : X.K = K) (hc : X.calm = true) : CallR X (.type "dict") (rDictP K) := h ▸ c_dictP hc
end
/-! ### d.get(c, c), c any cell -/
def GetC (K : PySem.W.Frag) (H : Hp) (a : Addr) (y : V) (o : Option V) : Prop := DGet H a y o ∨ ((∃ kvs, Rd H a (.dK kvs)) ∧ o = none ∧ (y = .non ∨ ∃ p, ∃ ks : List Key, y = .ref p ∧ SqT K H p (ks.map kV)))
def tGetC (K : PySem.W.Frag) (td ty tx : TE) : TE := fun σ H Q => td σ H fun x H1 => ∃ a, x = .ref a ∧ IsD H1 a ∧ ty σ H1 fun y H2 => tx σ H2 fun z H3 => ∃ o, GetC K H3 a y o ∧ Q (o.getD z) H3
section
variable {X : Cx} {pins : List (Addr × Obj)} {σ : L2.St} {H : Hp} {s : Shared} {a : Addr} {y d : V} {u r : Value} {o : Option V} {A : Around} {E : Value → Shared → Prop}
theorem d_getC {Q : Value → Shared → Prop} (hu : A.units + 1 < cLine) (I : Inv X pins σ H s) (g : GetC X.K H a y o) (ry : RelV y u) (rd : RelV d r) (h : ∀ w' s', Inv X pins σ H s' → RelV (o.getD d) w' → Q w' s') :
    wpAny (model X.prog X.w) A (call (.builtin "dict.get") [.ref a, u, r]) Q E s := by
  rcases g with g | ⟨⟨kvs, e⟩, rfl, e2⟩
  · exact d_get2 hu I g ry rd h
  · obtain ⟨z, hd, vs, rel, dd⟩ := dk_rd I.hok e
    rcases e2 with rfl | ⟨p, ks, rfl, hs⟩
    · obtain rfl : u = Value.none := ry
      obtain ⟨f, hm, hf⟩ := none_map dd
      refine call_meetsIn PySem.F.slot_dict_get dd.typeIs PySem.F.entry_dict_get (PySem.F.args_dict_get_3 _ _ _) (meets_dict_get_default (noneKind X.prog X.w) a (show (noneKind X.prog X.w).is none .none = true from rfl) hd r) ⟨_, hm, h _ _ (I.tok _) ?_⟩
      rw [hf]
      exact rd
    · cases (show u = Value.ref p from ry)
      obtain ⟨its, rv, ⟨ob, h1, h2, n, h3⟩, _⟩ := I.tuple hs
      have key : (tupleKind (mixKind X.prog X.w)).is s.heap ks p := ⟨ob, its.toArray, n, h1, h2, h3, by simpa using items_are rv⟩
      exact call_meetsIn PySem.F.slot_dict_get dd.typeIs PySem.F.entry_dict_get (PySem.F.args_dict_get_3 _ _ _) (meets_miss hd r) ⟨(show A.in1.units < cLine from tupleKind_room_in1 (knd := mixKind X.prog X.w) hu), ks, vs, key, dd, fun n => h _ _ (I.tok _) rd⟩
end
section
variable {X : Cx} {K : PySem.W.Frag} {o e f : Expr} {apos cpos : Pos} {td ty tx : TE}
theorem pe_getC (hu : X.A.units + 1 < cLine) (ho : PE X o td) (he : PE X e ty) (hf : PE X f tx) (m : M2 X o "get" apos e f cpos) : PE X (.Call (.Attribute o "get" apos) [e, f] [] cpos) (tGetC X.K td ty tx) := by
  refine ⟨fun pins s σ H Q I h => ?_⟩
  refine wpAny_Call_method m.base m.few m.line PySem.F.plainAttrs_dict PySem.F.slot_dict_get PySem.F.type_dict_get (thn (ho.run pins s σ H _ I h) fun u s1 ⟨x, H1, I1, rx, a, ex, d, q1⟩ => ?_)
  subst ex
  obtain rfl : u = Value.ref a := rx
  obtain ⟨t1, t2, _⟩ := isD_at I1 d
  refine ⟨t1, t2, ?_⟩
  rw [m.trees]
  refine Calls.callWith_builtin rfl (Calls.evalArgs_plain (Calls.spliced_cons (thn (he.run pins s1 σ H1 _ I1 q1) fun iv s2 ⟨y, H2, I2, ry, q2⟩ =>
    Calls.spliced_cons (thn (hf.run pins s2 σ H2 _ I2 q2) fun fv s3 ⟨z, H3, I3, rz, ov, g, q3⟩ => Calls.spliced_nil ?_))))
  exact d_getC hu I3 g ry rz fun w' s4 I4 rw' => ⟨_, H3, I4, rw', q3⟩
theorem k_getC (h : X.K = K) (hu : X.A.units + 1 < cLine) (ho : PE X o td) (he : PE X e ty) (hf : PE X f tx) (m : M2 X o "get" apos e f cpos) : PE X (.Call (.Attribute o "get" apos) [e, f] [] cpos) (tGetC K td ty tx) := h ▸ pe_getC hu ho he hf m
end
end Tq
namespace Tq
open PySem PySem.Spec PyProof.Rows L2
/-! ### what stands in a record -/
def four : List Str := ["active", "v1", "x", "c1"]
def Good (zs : List Str) : Cel → Prop
  | .null => True
  | .txt z => z ∈ zs
  | .val n => n ∈ four
def GoodR (zs : List Str) (R : List CRow) : Prop := ∀ r ∈ R, ∀ c ∈ r.getD [], Good zs c
theorem GoodR.texts {zs : List Str} {R : List CRow} (h : GoodR zs R) : ∀ z ∈ recT R, z ∈ zs := by
  intro z hz
  obtain ⟨r, hr, h2⟩ := List.mem_flatMap.mp hz
  obtain ⟨c, hc, h3⟩ := List.mem_filterMap.mp h2
  have g := h r hr c hc
  cases c with
  | txt y => cases h3; exact g
  | _ => cases h3
def CelOk : Cel → Bool
  | .null => true
  | .txt z => PyData.strOk z
  | .val n => PyData.strOk n
def RecOk (R : List CRow) : Prop := ∀ r ∈ R, ∀ c ∈ r.getD [], CelOk c = true
theorem four_ok : ∀ n ∈ four, PyData.strOk n = true := by decide +kernel
theorem GoodR.ok {zs : List Str} {R : List CRow} (h : GoodR zs R) (o : ∀ z ∈ zs, PyData.strOk z = true) : RecOk R := fun r hr c hc => by
  have g := h r hr c hc
  cases c with
  | null => rfl
  | txt z => exact o z g
  | val n => exact four_ok n g
theorem canAll : ∀ {ds : List PyData}, (∀ d ∈ ds, d.canLay0 = true) → PyData.canLayAll0 ds = true
  | [], _ => rfl
  | d :: ds, h => by
    show (d.canLay0 && PyData.canLayAll0 ds) = true
    rw [h d List.mem_cons_self, canAll fun x m => h x (List.mem_cons_of_mem _ m)]; rfl
theorem depthLe {n : Nat} : ∀ {ds : List PyData}, (∀ d ∈ ds, d.depth ≤ n) → PyData.depthAll ds ≤ n
  | [], _ => Nat.zero_le _
  | d :: ds, h => by
    show max d.depth (PyData.depthAll ds) ≤ n
    have a := h d List.mem_cons_self
    have b := depthLe (ds := ds) fun x m => h x (List.mem_cons_of_mem _ m)
    omega
theorem cel_can {c : Cel} (h : CelOk c = true) : c.d.canLay0 = true ∧ c.d.depth ≤ 1 := by
  cases c with
  | null => exact ⟨rfl, Nat.zero_le _⟩
  | txt z => exact ⟨h, Nat.zero_le _⟩
  | val n =>
    refine ⟨?_, Nat.le_refl _⟩
    show (PyData.strOk n && true) = true
    rw [show PyData.strOk n = true from h]; rfl
theorem row_can {r : CRow} (h : ∀ c ∈ r.getD [], CelOk c = true) : (rowD r).canLay0 = true ∧ (rowD r).depth ≤ 2 := by
  cases r with
  | none => exact ⟨rfl, Nat.zero_le _⟩
  | some cs =>
    have a : ∀ d ∈ cs.map Cel.d, d.canLay0 = true ∧ d.depth ≤ 1 := fun d m => by
      obtain ⟨c, hc, rfl⟩ := List.mem_map.mp m
      exact cel_can (h c hc)
    refine ⟨canAll fun d m => (a d m).1, ?_⟩
    show PyData.depthAll (cs.map Cel.d) + 1 ≤ 2
    have := depthLe (n := 1) fun d m => (a d m).2
    omega
theorem rec_can {R : List CRow} (h : RecOk R) : (recD R).canLay0 = true ∧ (recD R).depth ≤ 3 := by
  have a : ∀ d ∈ R.map rowD, d.canLay0 = true ∧ d.depth ≤ 2 := fun d m => by
    obtain ⟨r, hr, rfl⟩ := List.mem_map.mp m
    exact row_can (h r hr)
  refine ⟨canAll fun d m => (a d m).1, ?_⟩
  show PyData.depthAll (R.map rowD) + 1 ≤ 3
  have := depthLe (n := 2) fun d m => (a d m).2
  omega
theorem rec_shaped {R : List CRow} (h : RecOk R) : SeqAt.shaped (recD R) = true := by
  have ⟨a, b⟩ := rec_can h
  show (PyData.canLayAll0 (R.map rowD) && decide (PyData.depthAll (R.map rowD) + 1 ≤ 64)) = true
  have a2 : PyData.canLayAll0 (R.map rowD) = true := a
  have b2 : PyData.depthAll (R.map rowD) + 1 ≤ 3 := b
  rw [a2, decide_eq_true (by omega)]; rfl
section
variable {K : PySem.W.Frag} {H : Hp} {Q : VK} {x y : V} {R : List CRow}
theorem l_neSame (o : RecOk R) (h1 : Dp K H x (recD R)) (h2 : Dp K H y (recD R)) (q : Q (.bl false) H) : rNeD K x y H Q := ⟨_, _, h1, h2, rec_shaped o, rec_shaped o, by rw [PySem.SeqAt.eqv_refl _ (rec_can o).1]; exact q⟩
theorem l_eqSame (o : RecOk R) (h1 : Dp K H x (recD R)) (h2 : Dp K H y (recD R)) (q : Q (.bl true) H) : rEqD K x y H Q := ⟨_, _, h1, h2, rec_shaped o, rec_shaped o, by rw [PySem.SeqAt.eqv_refl _ (rec_can o).1]; exact q⟩
end
/-! ### dicts of texts -/
def dicT (prs : List (Str × Str)) : List (Key × V) := mergeK [] (prs.map fun p => (Sum.inr p.1, V.str p.2))
def look (prs : List (Str × Str)) (z : Str) : Option Str := prs.foldl (fun o p => if z = p.1 then some p.2 else o) none
theorem valV_mergeK : ∀ (more kvs : List (Key × V)) (k : Key), valV (mergeK kvs more) k = more.foldl (fun o p => if k = p.1 then some p.2 else o) (valV kvs k)
  | [], _, _ => rfl
  | p :: r, kvs, k => by
    show valV (mergeK (putK kvs p.1 p.2) r) k = _
    rw [valV_mergeK r, valV_put]; rfl
theorem valV_dicT (prs : List (Str × Str)) (z : Str) : valV (dicT prs) (Sum.inr z) = (look prs z).map V.str := by
  unfold dicT look
  rw [valV_mergeK, List.foldl_map]
  suffices h : ∀ (prs : List (Str × Str)) (o : Option Str), prs.foldl (fun (o : Option V) (p : Str × Str) => if (Sum.inr z : Key) = Sum.inr p.1 then some (V.str p.2) else o) (o.map V.str) = (prs.foldl (fun o p => if z = p.1 then some p.2 else o) o).map V.str from h prs none
  intro prs
  induction prs with
  | nil => intro o; rfl
  | cons p r ih =>
    intro o
    rw [List.foldl_cons, List.foldl_cons]
    by_cases e : z = p.1
    · rw [if_pos e, if_pos (congrArg Sum.inr e)]
      exact ih (some p.2)
    · rw [if_neg e, if_neg (fun h => e (Sum.inr.inj h))]
      exact ih o
theorem dicT_snoc (prs : List (Str × Str)) (a b : Str) : dicT (prs ++ [(a, b)]) = putK (dicT prs) (Sum.inr a) (V.str b) := by
  unfold dicT mergeK
  rw [List.map_append, List.foldl_append]; rfl
theorem dicT_len (prs : List (Str × Str)) : (dicT prs).length ≤ prs.length := by
  have := length_mergeK (prs.map fun p => ((Sum.inr p.1 : Key), V.str p.2)) []
  rw [List.length_map] at this
  have e : (dicT prs).length ≤ 0 + prs.length := this
  omega
/-! ### texts replaced -/
def Cel.sub (f : Str → Option Str) : Cel → Cel
  | .txt z => .txt ((f z).getD z)
  | c => c
def rowSub (f : Str → Option Str) (r : CRow) : CRow := r.map fun cs => cs.map (Cel.sub f)
def recSub (f : Str → Option Str) (R : List CRow) : List CRow := R.map (rowSub f)
theorem rowSub_len (f : Str → Option Str) (r : CRow) : ((rowSub f r).getD []).length = (r.getD []).length := by
  cases r with
  | none => rfl
  | some cs => exact List.length_map ..
theorem celN_sub (f : Str → Option Str) (R : List CRow) : celN (recSub f R) = celN R := by
  unfold celN recSub
  rw [List.map_map]
  congr 1
  exact List.map_congr_left fun r _ => rowSub_len f r
theorem recSub_ok {f : Str → Option Str} {R : List CRow} (h : RecOk R) (o : ∀ z y, f z = some y → PyData.strOk y = true) : RecOk (recSub f R) := by
  intro r hr c hc
  obtain ⟨r0, h0, rfl⟩ := List.mem_map.mp hr
  cases r0 with
  | none => cases hc
  | some cs =>
    obtain ⟨c0, hc0, rfl⟩ := List.mem_map.mp (show c ∈ cs.map (Cel.sub f) from hc)
    have g := h _ h0 c0 hc0
    cases c0 with
    | null => rfl
    | val n => exact g
    | txt z =>
      show PyData.strOk ((f z).getD z) = true
      cases e : f z with
      | none => exact g
      | some y => exact o z y e
theorem recSub_two {f : Str → Option Str} (h : ∀ z, (f ((f z).getD z)).getD ((f z).getD z) = z) (R : List CRow) : recSub f (recSub f R) = R := by
  unfold recSub
  rw [List.map_map]
  conv => rhs; rw [← List.map_id R]
  refine List.map_congr_left fun r _ => ?_
  cases r with
  | none => rfl
  | some cs =>
    show some ((cs.map (Cel.sub f)).map (Cel.sub f)) = some cs
    rw [List.map_map]
    congr 1
    conv => rhs; rw [← List.map_id cs]
    refine List.map_congr_left fun c _ => ?_
    cases c with
    | txt z => exact congrArg Cel.txt (h z)
    | _ => rfl
theorem swap_two (a b z : Str) : (look [(a, b), (b, a)] ((look [(a, b), (b, a)] z).getD z)).getD ((look [(a, b), (b, a)] z).getD z) = z := by
  have l : ∀ z, look [(a, b), (b, a)] z = if z = b then some a else if z = a then some b else none := fun z => rfl
  rw [l z]
  by_cases h1 : z = b
  · rw [if_pos h1]
    show (look _ a).getD a = z
    rw [l a]
    by_cases h2 : a = b
    · rw [if_pos h2, h1]; exact h2
    · rw [if_neg h2, if_pos rfl, h1]; rfl
  · rw [if_neg h1]
    by_cases h2 : z = a
    · rw [if_pos h2]
      show (look _ b).getD b = z
      rw [l b, if_pos rfl, h2]; rfl
    · rw [if_neg h2]
      show (look _ z).getD z = z
      rw [l z, if_neg h1, if_neg h2]; rfl
theorem look_ok {prs : List (Str × Str)} {p : Str → Prop} (h : ∀ q ∈ prs, p q.2) {z y : Str} (e : look prs z = some y) : p y := by
  unfold look at e
  suffices g : ∀ (prs : List (Str × Str)) (o : Option Str), (∀ q ∈ prs, p q.2) → (∀ y, o = some y → p y) → ∀ y, prs.foldl (fun o q => if z = q.1 then some q.2 else o) o = some y → p y from g prs none h (fun y e => nomatch e) y e
  intro prs
  induction prs with
  | nil => intro o _ ho y e; exact ho y e
  | cons q r ih =>
    intro o hq ho y e
    rw [List.foldl_cons] at e
    refine ih _ (fun x m => hq x (List.mem_cons_of_mem _ m)) (fun y e2 => ?_) y e
    split at e2
    · cases e2; exact hq q List.mem_cons_self
    · exact ho y e2
/-! ### steps -/
section
variable {K : PySem.W.Frag} {H H1 : Hp} {Q : VK} {σ : L2.St} {a p : Addr} {x y v : V} {td ty tx : TE} {prs : List (Str × Str)}
theorem l_getC0 (q : td σ H fun x H1 => ∃ a, x = .ref a ∧ IsD H1 a ∧ ty σ H1 fun y H2 => tx σ H2 fun z H3 => ∃ o, GetC K H3 a y o ∧ Q (o.getD z) H3) : tGetC K td ty tx σ H Q := q
theorem l_dg0 (q : td σ H fun x H1 => ty σ H1 fun y H2 => ∃ a v, x = .ref a ∧ DGet H2 a y (some v) ∧ Q v H2) : tDGet td ty σ H Q := q
theorem l_din0 (q : ty σ H fun y H1 => td σ H1 fun x H2 => ∃ a o, x = .ref a ∧ DGet H2 a y o ∧ Q (.bl o.isSome) H2) : tDIn ty td σ H Q := q
theorem l_get {c : Cel} (h : H a = some (.dK (dicT prs))) (hc : Dp K H v c.d) (q : ∀ v', Dp K H v' (c.sub (look prs)).d → Q v' H) : ∃ o, GetC K H a v o ∧ Q (o.getD v) H := by
  cases c with
  | null =>
    rw [dp_none hc] at *
    exact ⟨none, .inr ⟨⟨_, .inl h⟩, rfl, .inl rfl⟩, q _ .non⟩
  | txt z =>
    rw [dp_str hc] at *
    refine ⟨valV (dicT prs) (Sum.inr z), .inl (DGet.k (k := Sum.inr z) h), ?_⟩
    rw [valV_dicT]
    have e : ((look prs z).map V.str).getD (.str z) = .str ((look prs z).getD z) := by cases look prs z <;> rfl
    rw [e]
    exact q _ (.str _)
  | val n =>
    obtain ⟨p, xs, rfl, s, al⟩ := dp_tup hc
    have ex : xs = [n].map V.str := DpAll.strs (zs := [n]) al
    subst ex
    exact ⟨none, .inr ⟨⟨_, .inl h⟩, rfl, .inr ⟨p, [Sum.inr n], rfl, s⟩⟩, q _ (.tup s al)⟩
theorem l_din {z : Str} (h : H a = some (.dK (dicT prs))) (q : Q (.bl (look prs z).isSome) H) : ∃ b o, V.ref a = .ref b ∧ DGet H b (.str z) o ∧ Q (.bl o.isSome) H := by
  refine ⟨a, valV (dicT prs) (Sum.inr z), rfl, DGet.k (k := Sum.inr z) h, ?_⟩
  rw [valV_dicT, Option.isSome_map]
  exact q
theorem l_dg {z u : Str} (h : H a = some (.dK (dicT prs))) (e : look prs z = some u) (q : Q (.str u) H) : ∃ b v, V.ref a = .ref b ∧ DGet H b (.str z) (some v) ∧ Q v H :=
  ⟨a, .str u, rfl, by have g := DGet.k (H := H) (a := a) (k := Sum.inr z) h; rw [valV_dicT, e] at g; exact g, q⟩
theorem l_setDS {z u : Str} {R : Hp → Prop} (h : H p = some (.dK (dicT prs))) (few : prs.length < sizeLine) (q : R (upd H p (.dK (dicT (prs ++ [(z, u)]))))) : rSetD (.ref p) (.str z) (.str u) H R := by
  refine ⟨p, _, rfl, DPut.k (k := Sum.inr z) h (Nat.lt_of_le_of_lt (dicT_len prs) few), ?_⟩
  rw [← dicT_snoc]
  exact q
end
end Tq
namespace Tq
open PySem PySem.Spec PyProof.Rows L2
theorem TK.butN {H H' : Hp} {g : Addr} (b : But g H H') (n : H g = none) : TK H H' := fun c ys r => by
  have nc : c ≠ g := by
    rintro rfl
    rcases r with r | ⟨o, r⟩ <;> rw [n] at r <;> cases r
  rcases r with r | ⟨o, r⟩
  · exact .inl (b _ _ nc r)
  · exact .inr ⟨o, b _ _ nc r⟩
theorem row_le {R : List CRow} {i : Nat} {r : CRow} (h : R[i]? = some r) : (r.getD []).length ≤ celN R := by
  cases r with
  | none => exact Nat.zero_le _
  | some cs =>
    have := celN_row h
    show cs.length ≤ _
    omega
end Tq
namespace Tq
open PySem PySem.Spec PyProof.Rows L2
theorem dg_at {H : Hp} {a : Addr} {prs : List (Str × Str)} {z : Str} (h : H a = some (.dK (dicT prs))) : DGet H a (.str z) ((look prs z).map V.str) := by
  rw [← valV_dicT]
  exact DGet.k (k := Sum.inr z) h
theorem dg_some {H : Hp} {a : Addr} {prs : List (Str × Str)} {z u : Str} (h : H a = some (.dK (dicT prs))) (e : look prs z = some u) : DGet H a (.str z) (some (V.str u)) := by
  have g := dg_at (z := z) h
  rw [e] at g
  exact g
end Tq
namespace Tq
open PySem PySem.Spec PyProof.Rows L2
theorem seqIx {n : Int} {k : Nat} (h0 : 0 ≤ n) (h1 : n < k) : seqIndex? n k = some n.toNat := by
  have e : ¬ n < 0 := by omega
  simp [seqIndex?, e, h0, h1]
theorem map_erase {α β : Type} (f : α → β) (l : List α) (i : Nat) : (l.map f).eraseIdx i = (l.eraseIdx i).map f := by
  rw [List.eraseIdx_eq_take_drop_succ, List.eraseIdx_eq_take_drop_succ, List.map_append, List.map_take, List.map_drop]
theorem erase_perm {α : Type} {l : List α} {i : Nat} {z : α} (h : l[i]? = some z) : (z :: l.eraseIdx i).Perm l := by
  obtain ⟨hl, e⟩ := List.getElem?_eq_some_iff.mp h
  have s : l = l.take i ++ z :: l.drop (i + 1) := by rw [← e, List.getElem_cons_drop, List.take_append_drop]
  conv => rhs; rw [s]
  rw [List.eraseIdx_eq_take_drop_succ]
  exact List.perm_middle.symm
theorem cut_hi {xs : List V} {n : Int} (h0 : 0 ≤ n) (h1 : n ≤ xs.length) : cutV xs none (some n) = xs.take n.toNat := by
  unfold cutV
  have e1 : HT.sIx xs.length 0 none = 0 := rfl
  have e2 : HT.sIx xs.length xs.length (some n) = n.toNat := by
    show (if n < 0 then (n + (xs.length : Int)).toNat else min n.toNat xs.length) = _
    rw [if_neg (by omega)]; omega
  rw [e1, e2]; rfl
theorem cut_lo {xs : List V} {n : Int} (h0 : 0 ≤ n) (h1 : n ≤ xs.length) : cutV xs (some n) none = xs.drop n.toNat := by
  unfold cutV
  have e1 : HT.sIx xs.length xs.length none = xs.length := rfl
  have e2 : HT.sIx xs.length 0 (some n) = n.toNat := by
    show (if n < 0 then (n + (xs.length : Int)).toNat else min n.toNat xs.length) = _
    rw [if_neg (by omega)]; omega
  rw [e1, e2]
  exact List.take_of_length_le (by rw [List.length_drop]; omega)
section
variable {K : PySem.W.Frag} {H H1 : Hp} {Q : VK} {σ : L2.St} {a p : Addr} {x y v : V} {xs : List V} {te ti : TE} {tl th : TO}
theorem l_sl0 {r : V → Option Int → Option Int → Hp → VK → Prop} (q : te σ H fun x H1 => tl σ H1 fun l H2 => th σ H2 fun u H3 => r x l u H3 Q) : tSl r te tl th σ H Q := q
theorem l_slL {lo hi : Option Int} (h : SqL K H p xs) (q : ∀ r, H r = none → Q (.ref r) (upd H r (.lst (cutV xs lo hi)))) : rSlL K (.ref p) lo hi H Q := ⟨p, xs, rfl, h, q⟩
theorem l_slT {lo hi : Option Int} (h : SqT K H p xs) (c : ¬ (HT.sIx xs.length 0 lo = 0 ∧ HT.sIx xs.length xs.length hi = xs.length)) (q : ∀ r, H r = none → Q (.ref r) (upd H r (.tup (cutV xs lo hi)))) : rSlT K (.ref p) lo hi H Q := ⟨p, xs, rfl, h, c, q⟩
theorem dp_txts (l : List Str) : DpAll K H (l.map V.str) ((l.map Cel.txt).map Cel.d) := by
  have e : (l.map Cel.txt).map Cel.d = l.map PyData.str := by rw [List.map_map]; rfl
  rw [e]
  exact dp_texts l
end
end Tq
namespace Tq
open PySem PySem.Spec PyProof.Rows L2
section
variable {H : Hp} {σ : L2.St} {te : TE} {R : Option Int → Hp → Prop}
theorem l_np (q : R none H) : tNoPart σ H R := q
theorem l_part (q : te σ H fun x H1 => ∃ i, x = .int i ∧ R (some i) H1) : tPart te σ H R := q
theorem sIx_at {n d : Nat} {i : Int} (h0 : 0 ≤ i) (h1 : i ≤ n) : HT.sIx n d (some i) = i.toNat := by
  show (if i < 0 then (i + (n : Int)).toNat else min i.toNat n) = _
  rw [if_neg (by omega)]; omega
end
end Tq
namespace Tq
open PySem PySem.Spec PyProof.Rows L2
theorem Tape.butp {H H' : Hp} {t a p : Addr} (h : Tape H t a) (b : But p H H') (n1 : p ≠ t) (n2 : p ≠ a) : Tape H' t a := by
  obtain ⟨ns, q, c, d, n', h1, h2, h3, h4, h5⟩ := h
  exact ⟨ns, q, c, d, n', h1, h2, h3, b _ _ n2.symm h4, b _ _ n1.symm h5⟩
/-- the pairs at ps -/
def PairsT (K : PySem.W.Frag) (H : Hp) (ps : List Addr) (prs : List (Str × Str)) : Prop := Paired (fun p kv => SqT K H p [kV kv.1, kv.2]) ps (prs.map fun p => ((Sum.inr p.1 : Key), V.str p.2))
theorem PairsT.keep {K : PySem.W.Frag} {H H' : Hp} (k : TK H H') : ∀ {ps : List Addr} {prs : List (Str × Str)}, PairsT K H ps prs → PairsT K H' ps prs := by
  intro ps prs h
  unfold PairsT at *
  generalize prs.map (fun p => ((Sum.inr p.1 : Key), V.str p.2)) = l at h
  induction h with
  | nil => exact .nil
  | cons a _ ih => exact .cons (k.sq a) ih
theorem PairsT.snoc {K : PySem.W.Frag} {H : Hp} {ps : List Addr} {prs : List (Str × Str)} {p : Addr} {a b : Str} (h : PairsT K H ps prs) (s : SqT K H p [V.str a, V.str b]) : PairsT K H (ps ++ [p]) (prs ++ [(a, b)]) := by
  unfold PairsT at *
  rw [List.map_append]
  exact Paired.snoc h s
theorem PairsT.len {K : PySem.W.Frag} {H : Hp} {ps : List Addr} {prs : List (Str × Str)} (h : PairsT K H ps prs) : ps.length = prs.length := by
  unfold PairsT at h
  have e := Paired.length h
  rw [List.length_map] at e
  exact e
theorem PairsT.at {K : PySem.W.Frag} {H : Hp} : ∀ {ps : List Addr} {prs : List (Str × Str)} {i : Nat} {p : Addr}, PairsT K H ps prs → ps[i]? = some p → ∃ a b, prs[i]? = some (a, b) ∧ SqT K H p [V.str a, V.str b]
  | [], [], i, p, _, e => by simp at e
  | q :: ps, (a, b) :: prs, 0, p, h, e => by
    have h2 : Paired (fun p (kv : Key × V) => SqT K H p [kV kv.1, kv.2]) (q :: ps) (((Sum.inr a : Key), V.str b) :: prs.map fun p => ((Sum.inr p.1 : Key), V.str p.2)) := h
    cases h2 with
    | cons s _ =>
      simp at e; subst e
      exact ⟨a, b, rfl, s⟩
  | q :: ps, (a, b) :: prs, i + 1, p, h, e => by
    have h2 : Paired (fun p (kv : Key × V) => SqT K H p [kV kv.1, kv.2]) (q :: ps) (((Sum.inr a : Key), V.str b) :: prs.map fun p => ((Sum.inr p.1 : Key), V.str p.2)) := h
    cases h2 with
    | cons _ t =>
      obtain ⟨x, y, h3, h4⟩ := PairsT.at (i := i) (ps := ps) (prs := prs) t (by simpa using e)
      exact ⟨x, y, by simpa using h3, h4⟩
  | _ :: _, [], _, _, h, _ => by cases (show Paired _ (_ :: _) [] from h)
  | [], _ :: _, _, _, _, e => by simp at e
theorem zip_back : ∀ prs : List (Str × Str), (prs.map (·.1)).zip (prs.map (·.2)) = prs
  | [] => rfl
  | p :: r => by
    rw [List.map_cons, List.map_cons, List.zip_cons_cons, zip_back r]
theorem rsub_len (f : Str → Option Str) (R : List CRow) : (recSub f R).length = R.length := List.length_map ..
end Tq
/-! enumerate(a tuple) -/
namespace Tq
open PySem PySem.Spec PyProof.Rows L2
open PySem.AutoSeq1 (wpAny_loadPart')
theorem et_new (l : Addr) (its : Array Value) (n : Nat) (dc : Option Addr) (sl : Array (Option Value)) :
    Meets (Builtin.«enumerate.__new__» ⟨[.type "enumerate", .ref l], []⟩) (fun _ R s => s.heap.get? l = some { cls := .type "tuple", dict := dc, data := .seq its n, slots := sl } ∧ R (.ok (.ret (.ref (s.heap.push { cls := .type "tuple_iterator", data := .fields #[.ref l, .int 0 0] }).objs.size))) { s with heap := (s.heap.push { cls := .type "tuple_iterator", data := .fields #[.ref l, .int 0 0] }).push { cls := .type "enumerate", data := .fields #[.none, .bool false, .ref s.heap.objs.size, rawInt 0, .none, .none] } }) :=
  .of_wp fun prog w A R s h => by
    obtain ⟨hp, g, d, tk, os⟩ := s; obtain ⟨hl, h⟩ := h; have hsub := sub_enumerate
    have hL : Heap.IsTuple (Shared.heap ⟨hp, g, d, tk, os⟩) l its := ⟨_, hl, rfl, n, rfl⟩
    wp_walk using wpAny_loadPart' hl
    refine wpAny_stack_any fun st => wpAny_pure ?_
    split
    · rename_i c _ _ _ _ _
      cases (c == Value.type "enumerate") <;> (wp_walk using wpAny_loadPart' hl, wpAny_pyIter_tuple hL; exact ⟨_, rfl, h⟩)
    · wp_walk using wpAny_loadPart' hl, wpAny_pyIter_tuple hL; exact ⟨_, rfl, h⟩
section
variable {prog : Program} {w : World} {A : Around} {E : Value → Shared → Prop} {s : Shared}
theorem et_call {l : Addr} {its : Array Value} {Q : Value → Shared → Prop} (hL : s.heap.IsTuple l its)
    (h : ∀ h', IsEnum h' (s.heap.objs.size + 1) s.heap.objs.size 0 .none → h'.IsTupleIter s.heap.objs.size l 0 → h'.objs.size = s.heap.objs.size + 2 → (∀ b o, s.heap.get? b = some o → h'.get? b = some o) → Q (.ref (s.heap.objs.size + 1)) { s with heap := h' }) :
    wpAny (model prog w) A (call (.type "enumerate") [.ref l]) Q E s := by
  obtain ⟨⟨c, dct, dt, sl⟩, hl, hc, n, hd⟩ := hL
  replace hc : c = .type "tuple" := hc; replace hd : dt = .seq its n := hd; subst hc hd
  refine callType_new F.called_enumerate (by decide) (F.typeCall_enumerate_1 _) (F.newCall_enumerate_1 _) (fun obj => F.args_object_init_2 obj _) F.entry_enumerate_new (et_new l its n dct sl) ⟨hl, ?_⟩
  have hz : (s.heap.push { cls := .type "tuple_iterator", data := .fields #[.ref l, .int 0 0] }).objs.size = s.heap.objs.size + 1 := Heap.size_push ..
  show _ ∧ _
  rw [hz]
  have he : IsEnum ((s.heap.push { cls := .type "tuple_iterator", data := .fields #[.ref l, .int 0 0] }).push { cls := .type "enumerate", data := .fields #[.none, .bool false, .ref s.heap.objs.size, rawInt 0, .none, .none] }) (s.heap.objs.size + 1) s.heap.objs.size 0 .none := by
    have e := Heap.get?_push_size (s.heap.push { cls := .type "tuple_iterator", data := .fields #[.ref l, .int 0 0] }) (o := { cls := .type "enumerate", data := .fields #[.none, .bool false, .ref s.heap.objs.size, rawInt 0, .none, .none] }) rfl
    rw [hz] at e; exact e
  exact ⟨⟨_, he, rfl⟩, h _ he ⟨_, Heap.get?_push_of_some _ (Heap.get?_push_size _ rfl), rfl, rfl⟩ (by rw [Heap.size_push, hz]) fun b o x => Heap.get?_push_of_some _ (Heap.get?_push_of_some _ x)⟩
theorem et_step {e it l : Addr} {i : Nat} {its : Array Value} {x old : Value} {Q : Value → Shared → Prop} (he : IsEnum s.heap e it i old) (hit : s.heap.IsTupleIter it l i) (hl : s.heap.IsTuple l its) (hx : its[i]? = some x) (hne : e ≠ it)
    (hQ : ∀ h', IsEnumOut h' e it ((i : Int) + 1) x s.heap.objs.size → h'.IsTupleIter it l (i + 1) → h'.get? s.heap.objs.size = some { cls := .type "tuple", data := .seq #[.int i s.toks, x] } → h'.objs.size = s.heap.objs.size + 1 → (∀ b o, b ≠ e → b ≠ it → s.heap.get? b = some o → h'.get? b = some o) → Q (.ref s.heap.objs.size) { s with heap := h', toks := s.toks + 1 }) :
    wpAny (model prog w) A (Builtin.«enumerate.__next__» ⟨[.ref e], []⟩) (fun fin s' => ∃ v, fin = .done (.ret v) ∧ Q v s') E s := by
  obtain ⟨hp, g, d, tk, os⟩ := s
  show wpAny _ _ (field (.ref e) 2 >>= _) _ _ _
  refine wpAny_bind (wpAny_field he rfl (x := .ref it) rfl (wpAny_bind (RZ.nextOf_tuple_item hit hl hx fun a1 it1 s1 => ?_)))
  replace s1 : Heap.SameBut it hp a1 := s1
  have e1 : IsEnum a1 e it i old := (s1.2 e hne).trans he
  show wpAny _ _ (field (.ref e) 3 >>= _) _ _ ⟨a1, g, d, tk, os⟩
  refine wpAny_bind (wpAny_field e1 rfl (x := rawInt i) rfl ?_); show wpAny _ _ (field (.ref e) 4 >>= _) _ _ ⟨a1, g, d, tk, os⟩
  refine wpAny_bind (wpAny_field e1 rfl (x := .none) rfl ?_); show wpAny _ _ (mkInt i >>= _) _ _ ⟨a1, g, d, tk, os⟩
  refine wpAny_bind (wpAny_mkInt ?_); show wpAny _ _ (setField (.ref e) 3 (rawInt ((i : Int) + 1)) >>= _) _ _ ⟨a1, g, d, tk + 1, os⟩
  refine wpAny_bind (wpAny_setField_rec e1 (by simp) fun a2 e2 s2 => ?_)
  replace s2 : Heap.SameBut e a1 a2 := s2; replace e2 : IsEnum a2 e it ((i : Int) + 1) old := e2
  show wpAny _ _ (setField (.ref e) 4 .none >>= _) _ _ ⟨a2, g, d, tk + 1, os⟩
  refine wpAny_bind (wpAny_setField_rec e2 (by simp) fun a3 e3 s3 => ?_)
  replace s3 : Heap.SameBut e a2 a3 := s3; replace e3 : IsEnum a3 e it ((i : Int) + 1) old := e3
  show wpAny _ _ (newTuple [.int i tk, x] >>= _) _ _ ⟨a3, g, d, tk + 1, os⟩
  refine wpAny_bind (wpAny_newTuple ?_)
  have e4 : IsEnum (a3.push { cls := .type "tuple", data := .seq #[.int i tk, x] }) e it ((i : Int) + 1) old := Heap.get?_push_of_some _ e3
  generalize q4 : a3.push { cls := .type "tuple", data := .seq #[.int i tk, x] } = a4 at e4
  have sz : a3.objs.size = hp.objs.size := by rw [s3.1, s2.1, s1.1]
  have el : e < hp.objs.size := Heap.lt_size he
  have t4 : a4.get? hp.objs.size = some { cls := .type "tuple", data := .seq #[.int i tk, x] } := by rw [← q4, ← sz]; exact Heap.get?_push_size _ rfl
  have z4 : a4.objs.size = hp.objs.size + 1 := by rw [← q4, Heap.size_push, sz]
  have k4 : ∀ b o, b ≠ e → b ≠ it → hp.get? b = some o → a4.get? b = some o := fun b o be bi hb => by
    rw [← q4]; exact Heap.get?_push_of_some _ (s3.extBut b o be (s2.extBut b o be (s1.extBut b o bi hb)))
  have it4 : a4.IsTupleIter it l (i + 1) := by
    rw [← q4]; exact ((it1.extBut s2.extBut hne.symm).extBut s3.extBut hne.symm).at fun o q => Heap.get?_push_of_some _ q
  show wpAny _ _ (Builtin.SmallTypes.ownedTupleIsFree (.ref e) >>= _) _ _ ⟨a4, g, d, tk + 1, os⟩
  rw [sz]
  clear q4 e3 s3 e2 s2 e1 s1 it1 sz a3 a2 a1
  refine wpAny_bind ?_
  unfold Builtin.SmallTypes.ownedTupleIsFree
  refine wpAny_bind (wpAny_field e4 rfl (x := .none) rfl (wpAny_pure ?_))
  simp only [if_true]
  refine wpAny_bind (wpAny_rule (wpAny_bind (wpAny_field e4 rfl (x := old) rfl (wpAny_bind (wpAny_setField_rec e4 (by simp) fun a5 e5 s5 => ?_)))))
  replace s5 : Heap.SameBut e a4 a5 := s5; replace e5 : IsEnum a5 e it ((i : Int) + 1) x := e5
  show wpAny _ _ (Builtin.SmallTypes.ownedTupleHandOut (.ref e) (.ref hp.objs.size) >>= _) _ _ ⟨a5, g, d, tk + 1, os⟩
  refine wpAny_bind ?_
  unfold Builtin.SmallTypes.ownedTupleHandOut
  refine wpAny_bind (wpAny_setField_rec e5 (by simp) fun a6 e6 s6 => ?_)
  replace s6 : Heap.SameBut e a5 a6 := s6; replace e6 : IsEnumOut a6 e it ((i : Int) + 1) x hp.objs.size := e6
  refine wpAny_setField_rec e6 (by simp) fun a7 e7 s7 => ?_
  replace s7 : Heap.SameBut e a6 a7 := s7; replace e7 : IsEnumOut a7 e it ((i : Int) + 1) x hp.objs.size := e7
  refine wpAny_bind (wpAny_letGo (wpAny_pure ⟨_, rfl, hQ a7 e7 (((it4.extBut s5.extBut hne.symm).extBut s6.extBut hne.symm).extBut s7.extBut hne.symm) ?_ (by rw [s7.1, s6.1, s5.1, z4]) fun b o be bi hb => s7.extBut b o be (s6.extBut b o be (s5.extBut b o be (k4 b o be bi hb)))⟩))
  exact s7.extBut _ _ (Nat.ne_of_gt el) (s6.extBut _ _ (Nat.ne_of_gt el) (s5.extBut _ _ (Nat.ne_of_gt el) t4))
theorem et_next {e it l : Addr} {i : Nat} {its : Array Value} {x old : Value} {Q : Option Value → Shared → Prop} (he : IsEnum s.heap e it i old) (hit : s.heap.IsTupleIter it l i) (hl : s.heap.IsTuple l its) (hx : its[i]? = some x) (hne : e ≠ it)
    (hQ : ∀ h', IsEnumOut h' e it ((i : Int) + 1) x s.heap.objs.size → h'.IsTupleIter it l (i + 1) → h'.get? s.heap.objs.size = some { cls := .type "tuple", data := .seq #[.int i s.toks, x] } → h'.objs.size = s.heap.objs.size + 1 → (∀ b o, b ≠ e → b ≠ it → s.heap.get? b = some o → h'.get? b = some o) → Q (some (.ref s.heap.objs.size)) { s with heap := h', toks := s.toks + 1 }) :
    wpAny (model prog w) A (pyNext (.ref e)) Q E s := by
  have ty : s.TypeIs (.ref e) "enumerate" := ⟨_, he, rfl⟩
  unfold pyNext
  exact wpAny_bind (wpAny_attempt (wpAny_callSpecial?_slot (name := Str.ofString "__next__") ty F.slot_enumerate_next (wpAny_call_entry F.slot_enumerate_next ty F.entry_enumerate_next (et_step he hit hl hx hne fun h' a b c d k => wpAny_pure (hQ h' a b c d k)) (F.args_enumerate_next_1 _))))
theorem et_end {e it l : Addr} {i : Nat} {its : Array Value} {old : Value} {Q : Option Value → Shared → Prop} (hh : A.handled = none) (he : IsEnum s.heap e it i old) (hit : s.heap.IsTupleIter it l i) (hl : s.heap.IsTuple l its) (hx : its[i]? = none)
    (hQ : ∀ h', Heap.ExtBut it s.heap h' → Q none { s with heap := h' }) : wpAny (model prog w) A (pyNext (.ref e)) Q E s := by
  have ty : s.TypeIs (.ref e) "enumerate" := ⟨_, he, rfl⟩
  unfold pyNext
  refine wpAny_bind (wpAny_attempt (wpAny_callSpecial?_slot (name := Str.ofString "__next__") ty F.slot_enumerate_next (wpAny_call_entry F.slot_enumerate_next ty F.entry_enumerate_next ?_ (F.args_enumerate_next_1 _))))
  show wpAny _ _ (field (.ref e) 2 >>= _) _ _ _
  refine wpAny_bind (wpAny_field he rfl (x := .ref it) rfl (wpAny_bind (RZ.nextOf_tuple_end hh hit hl hx fun h' x he' hx' => ?_)))
  obtain ⟨o, ho, hc⟩ := hx'
  exact wpAny_bind (wpAny_isInstance (T := "StopIteration") (b := true) ⟨o, ho, hc⟩ isSubtype_stop (wpAny_pure (hQ _ he')))
end
/-- the tuple at a, each item in a new pair -/
def IteT (K : PySem.W.Frag) (a : Addr) : It :=
  ⟨fun i H => ∃ (xs : List V) (x : V), SqT K H a xs ∧ xs[i]? = some x, fun i H v H' => ∃ T x, v = .ref T ∧ H T = none ∧ H' = upd H T (.tup [.int (i : Nat), x]) ∧ ∀ xs, SqT K H a xs → xs[i]? = some x, fun i H => ∃ xs : List V, SqT K H a xs ∧ xs.length ≤ i⟩
theorem et_turn {P : Program} {w : World} {K : PySem.W.Frag} {elts : List Expr} {kk : Nat} {tpos : Pos} (a e it : Addr) :
    Turn P w K (.Tuple elts kk tpos) (IteT K a) [e, it] e (fun i h => (∃ old, IsEnum h e it ((i : Nat) : Int) old) ∧ h.IsTupleIter it a i ∧ e ≠ it) where
  mem := by simp
  obj := fun i h st b hb => by
    obtain ⟨⟨old, he⟩, ⟨o, ho, hc, hd⟩, _⟩ := st
    have e' : b = e ∨ b = it := by simpa using hb
    rcases e' with z | z <;> rw [z]
    · exact ⟨_, he, fun v q => nomatch q⟩
    · exact ⟨o, ho, fun v q => by rw [hd] at q; cases q⟩
  keep := fun i h h' st k => ⟨st.1.imp fun old he => k e (by simp) _ he, st.2.1.at fun o q => k it (by simp) o q, st.2.2⟩
  item := by
    intro X hP hw hK hc i pins s σ H E I hf st hg
    subst hP hw hK
    obtain ⟨⟨old, he⟩, hit, hne⟩ := st; obtain ⟨xs, x, hq, hx⟩ := hg
    obtain ⟨its, rv, p, hz⟩ := I.tuple hq; obtain ⟨u, hu, ru⟩ := rv.get hx
    have hel : e < s.heap.objs.size := Heap.lt_size he
    have hil : it < s.heap.objs.size := by obtain ⟨_, q, _⟩ := hit; exact Heap.lt_size q
    refine et_next he hit p (x := u) (by simpa using hu) hne fun h' ho hit' hT hsz hk => ⟨_, rfl, wpAny_letOwnedTupleGo_enum (s := { s with heap := h', toks := s.toks + 1 }) ho fun h'' he' sb => ?_⟩
    have hT2 : h''.get? s.heap.objs.size = some { cls := .type "tuple", data := .seq #[.int i s.toks, u] } := (sb.2 _ (Nat.ne_of_gt hel)).trans hT
    have new : ObjOk X.prog X.w (upd H s.heap.objs.size (.tup [.int (i : Nat), x])) h'' s.heap.objs.size (.tup [.int (i : Nat), x]) := ⟨by show 2 ≤ sizeLine; decide, [.int i s.toks, u], .cons ⟨_, rfl⟩ (.cons ru .nil), ⟨_, hT2, rfl, _, rfl⟩⟩
    have I1 : Inv X pins σ (upd H s.heap.objs.size (.tup [.int (i : Nat), x])) { s with heap := h'', toks := s.toks + 1 } := I.turnedNew (ch := [e, it]) (fun b ob hb q => (sb.2 b (fun z => hb (by simp [z]))).trans (hk b ob (fun z => hb (by simp [z])) (fun z => hb (by simp [z])) q)) hf (Nat.le_refl _) new
    refine ⟨.ref s.heap.objs.size, _, I1, rfl, ⟨_, x, rfl, I.hok.fresh (Nat.le_refl _), rfl, fun ys hy => by rw [I.tuple_inj hy hq]; exact hx⟩, ⟨⟨u, ?_⟩, hit'.at fun o q => (sb.2 it (Ne.symm hne)).trans q, hne⟩, fun b hb => ?_⟩
    · rw [show ((i + 1 : Nat) : Int) = (i : Int) + 1 by omega]; exact he'
    · have hb' : b < s.heap.objs.size := by
        have e' : b = e ∨ b = it := by simpa using hb
        rcases e' with z | z <;> rw [z]
        · exact hel
        · exact hil
      rw [upd_ne (Nat.ne_of_lt hb')]; exact (hf b hb).1
  done := by
    intro X hP hw hK hc i pins s σ H E I hf st hg
    subst hP hw hK
    obtain ⟨⟨old, he⟩, hit, hne⟩ := st; obtain ⟨xs, hq, hx⟩ := hg
    obtain ⟨its, rv, p, hz⟩ := I.tuple hq; obtain ⟨f0, f1, f2, f3, f4, f5⟩ := hf it (by simp)
    have hl := rv.length
    exact et_end (I.ok.hd hc) he hit p (by simp; omega) fun h' eb => ⟨rfl, I.turned (t' := s.toks) (fun b o hb q => eb b o hb q) f0 f1 f3 f4 f5⟩
  self := fun A i s Q E st h => st.1.elim fun _ he => wpAny_pyIter_enum he h
def iEnT (K : PySem.W.Frag) (ta : TA) : TI := fun σ H R => ta σ H fun vs H1 => ∃ a xs, vs = [.ref a] ∧ SqT K H1 a xs ∧ R (IteT K a) H1
theorem pi_enT {X : Cx} {e : Expr} {ta : TA} {p pos tpos : Pos} {elts : List Expr} {kk : Nat} (hg : Gl X "enumerate") (hm : X.mg "enumerate" = none) (ha : PA X [e] ta) (hs : starEach [e] X.env = [(false, eval e X.env)] := by rfl) :
    PI X (.Tuple elts kk tpos) (.Call (.Name "enumerate" p) [e] [] pos) (iEnT X.K ta) := by
  refine ⟨fun pins s σ H R I h => Call_ (ld_blt I hg hm boot_enumerate (PyProof.Rows.callWith_type1 (thn (ha.run pos pins s σ H _ I h) fun us s1 ⟨vs, H1, I1, r1, q1⟩ => ?_) hs rfl))⟩
  obtain ⟨a, xs, ex, hq, q⟩ := q1
  subst ex
  cases r1 with
  | cons r rr =>
    cases rr; cases r
    obtain ⟨its, rv, p', hz⟩ := I1.tuple hq
    refine et_call p' fun h' he hit hsz hk => wpAny_pyIter_enum he ?_
    have I2 : Inv X pins σ H1 { s1 with heap := h' } := I1.kept (t' := s1.toks) hk
    refine ⟨s1.heap.objs.size + 1, [s1.heap.objs.size + 1, s1.heap.objs.size], _, _, H1, rfl, I2, et_turn a (s1.heap.objs.size + 1) s1.heap.objs.size, ⟨⟨.none, he⟩, hit, Nat.succ_ne_self _⟩, fun b hb => ?_, q⟩
    have e' : b = s1.heap.objs.size + 1 ∨ b = s1.heap.objs.size := by simpa using hb
    have hle : s1.heap.objs.size ≤ b := by
      rcases e' with z | z <;> rw [z]
      · exact Nat.le_add_right _ _
      · exact Nat.le_refl _
    exact I1.fpOk hle (I1.hok.fresh hle)
theorem k_enT {X : Cx} {K : PySem.W.Frag} {e : Expr} {ta : TA} {p pos tpos : Pos} {elts : List Expr} {kk : Nat} (h : X.K = K) (hg : Gl X "enumerate") (hm : X.mg "enumerate" = none) (ha : PA X [e] ta) (hs : starEach [e] X.env = [(false, eval e X.env)] := by rfl) :
    PI X (.Tuple elts kk tpos) (.Call (.Name "enumerate" p) [e] [] pos) (iEnT K ta) := h ▸ pi_enT hg hm ha hs
section
variable {K : PySem.W.Frag} {σ : L2.St} {H : Hp} {a : Addr} {xs : List V} {tr : TA} {te : TE}
theorem l_enT {R : It → Hp → Prop} (q : tr σ H fun vs H1 => ∃ a xs, vs = [.ref a] ∧ SqT K H1 a xs ∧ R (IteT K a) H1) : iEnT K tr σ H R := q
theorem for_enT {g : TG} {tb : TS} {D : Ends} (Pv : Nat → L2.St → Hp → Prop) (h0 : Pv 0 σ H) (hl : ∀ i σ H, i ≤ xs.length → Pv i σ H → SqT K H a xs)
    (hs : ∀ i x σ H T, xs[i]? = some x → Pv i σ H → H T = none → g (.ref T) σ (upd H T (.tup [.int (i : Nat), x])) fun σ2 H2 => tb { D with nx := Pv (i + 1), ct := Pv (i + 1), bk := D.nx } σ2 H2) (hd : ∀ σ H, Pv xs.length σ H → D.nx σ H) :
    ∃ W : Nat → Nat → L2.St → Hp → Prop, (∃ m, W 0 m σ H) ∧ ∀ i m σ H, W i m σ H →
      ((IteT K a).stop i H ∧ D.nx σ H) ∨ ((IteT K a).go i H ∧ ∃ N : L2.St → Hp → Prop, (∀ σ' H', N σ' H' → ∃ m', m' < m ∧ W (i + 1) m' σ' H') ∧ ∀ v H', (IteT K a).yld i H v H' → g v σ H' fun σ2 H2 => tb { D with nx := N, ct := N, bk := D.nx } σ2 H2) := by
  refine ⟨fun i m σ H => m = xs.length - i ∧ i ≤ xs.length ∧ Pv i σ H, ⟨xs.length, rfl, Nat.zero_le _, h0⟩, ?_⟩
  rintro i m σ H ⟨rfl, hi, p⟩
  have q := hl i σ H hi p
  by_cases lt : i < xs.length
  · refine .inr ⟨⟨xs, xs[i], q, List.getElem?_eq_getElem lt⟩, Pv (i + 1), fun σ' H' p' => ⟨xs.length - (i + 1), by omega, rfl, lt, p'⟩, fun v H' y => ?_⟩
    obtain ⟨T, x, rfl, n, rfl, e⟩ := y
    exact hs i x σ H T (e xs q) p n
  · obtain rfl : i = xs.length := by omega
    exact .inl ⟨⟨xs, q, Nat.le_refl _⟩, hd σ H p⟩
end
theorem ixN_nat {n i : Nat} (h : i < n) : ixN n (i : Int) = some i := by
  unfold ixN
  rw [if_pos (by omega), if_pos (by omega), Int.toNat_natCast]
end Tq
namespace Tq
open PySem PySem.Spec PyProof.Rows L2
/-! ### rules: reversed(a tuple), xs[i] += e, a pair by a test, ints -/
section
variable {X : Cx} {K : PySem.W.Frag} {H : Hp} {Q : VK} {i j : Int} {σ : L2.St} {a p : Addr} {x y v : V} {xs ys : List V} {ta tb te : TE} {t : TT} {D : Ends} {tr : TA}
theorem k_revA {tg e : Expr} {p pos : Pos} (h : X.K = K) (hg : Gl X "reversed") (hm : X.mg "reversed" = none) (he : PE X e te) (hs : starEach [e] X.env = (false, eval e X.env) :: starEach [] X.env := by rfl) : PI X tg (.Call (.Name "reversed" p) [e] [] pos) (RT.iRevA K te) := h ▸ RT.pi_revA hg hm he hs
theorem l_revT {R : It → Hp → Prop} (q : te σ H fun v H1 => ∃ (a : Addr) (xs : List V), v = .ref a ∧ ((SqL K H1 a xs ∧ R (L2.Itv K a xs.length) H1) ∨ (SqT K H1 a xs ∧ R (RT.ItvT K a xs.length) H1))) : RT.iRevA K te σ H R := q
/-- an item of a list, at a place that is not negative -/
def rIxN (K : PySem.W.Frag) : V → V → Hp → VK → Prop := fun o i H Q => ∃ p xs k v, o = .ref p ∧ i = .int k ∧ SqL K H p xs ∧ 0 ≤ k ∧ k < 2 ^ 62 ∧ xs[k.toNat]? = some v ∧ Q v H
theorem gt_list (h : X.K = K) : PGet X (rIxN K) := by
  subst h
  intro pins s σ H o i ov iv Q I ro ri q
  obtain ⟨p, xs, k, z, rfl, rfl, hq, k0, k1, he, q⟩ := q
  cases ro
  obtain ⟨t, rfl⟩ := ri
  obtain ⟨its, r, pl, hz⟩ := I.list hq
  obtain ⟨w, ew, rw'⟩ := r.get he
  exact wpAny_getItem_list pl.isList k0 (by omega) (by simpa using ew) ⟨z, H, I, rw', q⟩
theorem l_augS {tget : V → V → Hp → VK → Prop} {tip : TIp} {tset : L2.TSet} (q : ta σ H fun o H1 => tb σ H1 fun i H2 => tget o i H2 fun x H3 => te σ H3 fun y H4 => tip x y H4 fun z H5 => tset o i z H5 fun H6 => D.nx σ H6) : tAugS ta tb te tget tip tset D σ H := q
theorem l_ixN (h : SqL K H p xs) (k0 : 0 ≤ i) (k1 : i < 2 ^ 62) (e : xs[i.toNat]? = some v) (q : Q v H) : rIxN K (.ref p) (.int i) H Q := ⟨p, xs, i, v, rfl, rfl, h, k0, k1, e, q⟩
theorem l_isII (q : Q (.bl true) H) : rIsi K [.int i, .ty "int"] H Q := l_isi (.base (.int i)) (by decide +kernel) q
theorem l_isIB (q : Q (.bl false) H) : rIsi K [.int i, .ty "bool"] H Q := l_isi (.base (.int i)) (by decide +kernel) q
end
end Tq
namespace Tq
/-! ### polynomials as lists of coefficients -/
def trim : List Int → List Int
  | [] => []
  | x :: r => if x = 0 ∧ trim r = [] then [] else x :: trim r
theorem trim_zero : ∀ {xs : List Int}, (∀ z ∈ xs, z = 0) → trim xs = []
  | [], _ => rfl
  | x :: r, h => by
    rw [trim, if_pos ⟨h x List.mem_cons_self, trim_zero fun z m => h z (List.mem_cons_of_mem _ m)⟩]
theorem trim_of : ∀ {xs : List Int} {m : Nat}, (∀ z ∈ xs.drop m, z = 0) → m ≤ xs.length → (∀ k, m = k + 1 → xs[k]? ≠ some 0) → trim xs = xs.take m
  | xs, 0, h, _, _ => by rw [trim_zero (by simpa using h)]; rfl
  | [], m + 1, _, l, _ => by simp at l
  | x :: r, m + 1, h, l, n => by
    have l' : m ≤ r.length := by simpa using l
    have ih := trim_of (xs := r) (m := m) h l' fun k e => by
      have := n (k + 1) (by omega)
      simpa using this
    rw [trim, ih]
    cases m with
    | zero =>
      have x0 : x ≠ 0 := by
        have := n 0 rfl
        simpa using this
      rw [if_neg (fun c => x0 c.1)]; rfl
    | succ k =>
      rw [if_neg (fun c => by
        have e := congrArg List.length c.2
        rw [List.length_take, Nat.min_eq_left l'] at e
        exact Nat.succ_ne_zero _ e)]
      rfl
theorem trim_trim : ∀ xs : List Int, trim (trim xs) = trim xs
  | [] => rfl
  | x :: r => by
    rw [trim]
    split
    · rfl
    · rename_i h
      rw [trim, trim_trim r, if_neg h]
theorem trim_sub : ∀ (xs : List Int), ∀ z ∈ trim xs, z ∈ xs
  | [], z, m => m
  | x :: r, z, m => by
    rw [trim] at m
    split at m
    · simp at m
    · rcases List.mem_cons.mp m with e | e
      · rw [e]; exact List.mem_cons_self
      · exact List.mem_cons_of_mem _ (trim_sub r z e)
theorem trim_len : ∀ (xs : List Int), (trim xs).length ≤ xs.length
  | [] => Nat.le_refl _
  | x :: r => by
    rw [trim]
    split
    · exact Nat.zero_le _
    · exact Nat.succ_le_succ (trim_len r)
/-- the sum of the sizes -/
def l1 (xs : List Int) : Nat := (xs.map Int.natAbs).sum
theorem l1_cons (x : Int) (r : List Int) : l1 (x :: r) = x.natAbs + l1 r := by simp [l1]
theorem l1_app (xs ys : List Int) : l1 (xs ++ ys) = l1 xs + l1 ys := by simp [l1]
theorem l1_mem {xs : List Int} {z : Int} (h : z ∈ xs) : z.natAbs ≤ l1 xs := by
  induction xs with
  | nil => cases h
  | cons x r ih =>
    rw [l1_cons]
    rcases List.mem_cons.mp h with e | e
    · rw [e]; omega
    · have := ih e; omega
theorem l1_trim : ∀ xs : List Int, l1 (trim xs) ≤ l1 xs
  | [] => Nat.le_refl _
  | x :: r => by
    rw [trim]
    have := l1_trim r
    split
    · exact Nat.zero_le _
    · rw [l1_cons, l1_cons]; omega
theorem l1_rep (n : Nat) : l1 (List.replicate n 0) = 0 := by
  induction n with
  | zero => rfl
  | succ n ih => rw [List.replicate_succ, l1_cons, ih]; rfl
theorem l1_set : ∀ (xs : List Int) (k : Nat) (d : Int), l1 (xs.set k (xs.getD k 0 + d)) ≤ l1 xs + d.natAbs
  | [], k, d => by simp [l1]
  | x :: r, 0, d => by
    rw [List.set_cons_zero, l1_cons, l1_cons]
    have : ((x :: r).getD 0 0) = x := rfl
    rw [this]; omega
  | x :: r, k + 1, d => by
    rw [List.set_cons_succ, l1_cons, l1_cons]
    have : ((x :: r).getD (k + 1) 0) = r.getD k 0 := rfl
    rw [this]
    have := l1_set r k d
    omega
/-- the sum, coefficient by coefficient -/
def sumL (a b : List Int) (n : Nat) : List Int := (List.range n).map fun k => a.getD k 0 + b.getD k 0
def addL (a b : List Int) : List Int := trim (sumL a b (max a.length b.length))
theorem sumL_comm (a b : List Int) (n : Nat) : sumL a b n = sumL b a n := by
  unfold sumL
  exact List.map_congr_left fun k _ => Int.add_comm ..
theorem sumL_len (a b : List Int) (n : Nat) : (sumL a b n).length = n := by simp [sumL]
theorem sumL_succ (a b : List Int) (n : Nat) : sumL a b (n + 1) = sumL a b n ++ [a.getD n 0 + b.getD n 0] := by simp [sumL, List.range_succ]
theorem getD_some {xs : List Int} {k : Nat} {z : Int} (h : xs[k]? = some z) : xs.getD k 0 = z := by rw [List.getD_eq_getElem?_getD, h]; rfl
theorem getD_none {xs : List Int} {k : Nat} (h : xs.length ≤ k) : xs.getD k 0 = 0 := by rw [List.getD_eq_getElem?_getD, List.getElem?_eq_none h]; rfl
/-- the longer one with the first coefficients of the shorter one added -/
def sumP (l s : List Int) (i : Nat) : List Int := (List.range l.length).map fun k => l.getD k 0 + if k < i then s.getD k 0 else 0
theorem sumP_zero (l s : List Int) : sumP l s 0 = l := by
  refine List.ext_getElem? fun k => ?_
  unfold sumP
  rw [List.getElem?_map]
  by_cases h : k < l.length
  · rw [List.getElem?_range h, List.getElem?_eq_getElem h, Option.map_some, if_neg (Nat.not_lt_zero _), List.getD_eq_getElem?_getD, List.getElem?_eq_getElem h]; simp
  · rw [List.getElem?_eq_none (by simpa using h), List.getElem?_eq_none (by omega)]; rfl
theorem sumP_len (l s : List Int) (i : Nat) : (sumP l s i).length = l.length := by simp [sumP]
theorem sumP_get {l s : List Int} {i k : Nat} (h : k < l.length) : (sumP l s i)[k]? = some (l.getD k 0 + if k < i then s.getD k 0 else 0) := by
  unfold sumP
  rw [List.getElem?_map, List.getElem?_range h]; rfl
theorem sumP_succ {l s : List Int} {i : Nat} (h : i < l.length) : (sumP l s i).set i (l.getD i 0 + s.getD i 0) = sumP l s (i + 1) := by
  refine List.ext_getElem? fun k => ?_
  rw [List.getElem?_set]
  by_cases hk : k < l.length
  · rw [sumP_get (i := i + 1) hk]
    by_cases e : i = k
    · subst e
      rw [if_pos rfl, if_pos (by rw [sumP_len]; exact hk), if_pos (Nat.lt_succ_self _)]
    · rw [if_neg e, sumP_get (i := i) hk]
      by_cases c : k < i
      · rw [if_pos c, if_pos (by omega)]
      · rw [if_neg c, if_neg (by omega)]
  · rw [List.getElem?_eq_none (by rw [sumP_len]; omega), if_neg (by omega), List.getElem?_eq_none (by rw [sumP_len]; omega)]
theorem sumP_all {l s : List Int} (h : s.length ≤ l.length) : sumP l s s.length = sumL l s l.length := by
  unfold sumP sumL
  refine List.map_congr_left fun k _ => ?_
  by_cases c : k < s.length
  · rw [if_pos c]
  · rw [if_neg c, getD_none (xs := s) (by omega)]
/-- the product: one place after another -/
def inn (c : List Int) (i : Nat) (x : Int) (ys : List Int) : Nat → List Int
  | 0 => c
  | j + 1 => (inn c i x ys j).set (i + j) ((inn c i x ys j).getD (i + j) 0 + x * ys.getD j 0)
def out (xs ys : List Int) : Nat → List Int
  | 0 => List.replicate (xs.length + ys.length) 0
  | i + 1 => inn (out xs ys i) i (xs.getD i 0) ys ys.length
def mulL (xs ys : List Int) : List Int := trim (out xs ys xs.length)
theorem inn_len (c : List Int) (i : Nat) (x : Int) (ys : List Int) (j : Nat) : (inn c i x ys j).length = c.length := by
  induction j with
  | zero => rfl
  | succ j ih => rw [inn, List.length_set, ih]
theorem out_len (xs ys : List Int) (i : Nat) : (out xs ys i).length = xs.length + ys.length := by
  induction i with
  | zero => exact List.length_replicate
  | succ i ih => rw [out, inn_len, ih]
theorem inn_l1 (c : List Int) (i : Nat) (x : Int) (ys : List Int) (j : Nat) (hj : j ≤ ys.length) : l1 (inn c i x ys j) ≤ l1 c + x.natAbs * l1 (ys.take j) := by
  induction j with
  | zero => exact Nat.le_add_right _ _
  | succ j ih =>
    have h := l1_set (inn c i x ys j) (i + j) (x * ys.getD j 0)
    have ih := ih (by omega)
    have e : ys.take (j + 1) = ys.take j ++ [ys.getD j 0] := by
      rw [List.take_succ, List.getElem?_eq_getElem (by omega), List.getD_eq_getElem?_getD, List.getElem?_eq_getElem (by omega)]; rfl
    rw [inn, e, l1_app, Nat.mul_add]
    rw [Int.natAbs_mul] at h
    have e2 : l1 [ys.getD j 0] = (ys.getD j 0).natAbs := by simp [l1]
    rw [e2]; omega
theorem out_l1 (xs ys : List Int) (i : Nat) (hi : i ≤ xs.length) : l1 (out xs ys i) ≤ l1 (xs.take i) * l1 ys := by
  induction i with
  | zero => rw [out, l1_rep]; exact Nat.zero_le _
  | succ i ih =>
    have h := inn_l1 (out xs ys i) i (xs.getD i 0) ys ys.length (Nat.le_refl _)
    have ih := ih (by omega)
    have e : xs.take (i + 1) = xs.take i ++ [xs.getD i 0] := by
      rw [List.take_succ, List.getElem?_eq_getElem (by omega), List.getD_eq_getElem?_getD, List.getElem?_eq_getElem (by omega)]; rfl
    rw [List.take_length] at h
    rw [out, e, l1_app, Nat.add_mul]
    have e2 : l1 [xs.getD i 0] = (xs.getD i 0).natAbs := by simp [l1]
    rw [e2]; omega
theorem mul_l1 (xs ys : List Int) : l1 (mulL xs ys) ≤ l1 xs * l1 ys := by
  have h := out_l1 xs ys xs.length (Nat.le_refl _)
  rw [List.take_length] at h
  exact Nat.le_trans (l1_trim _) h
theorem mul_len (xs ys : List Int) : (mulL xs ys).length ≤ xs.length + ys.length := by
  have := trim_len (out xs ys xs.length)
  rw [out_len] at this
  exact this
theorem add_len (xs ys : List Int) : (addL xs ys).length ≤ max xs.length ys.length := by
  have := trim_len (sumL xs ys (max xs.length ys.length))
  rw [sumL_len] at this
  exact this
/-- the value -/
def valL (xs : List Int) (n : Int) : Int := xs.foldr (fun c v => v * n + c) 0
/-- (n - s) (n - s - 1) .. -/
def falL (s : Int) : Nat → List Int
  | 0 => [1]
  | k + 1 => mulL (falL s k) [-s - (k : Int), 1]
theorem fal_len (s : Int) (k : Nat) : (falL s k).length ≤ 1 + 2 * k := by
  induction k with
  | zero => exact Nat.le_refl _
  | succ k ih =>
    have := mul_len (falL s k) [-s - (k : Int), 1]
    rw [falL]
    simp at this
    omega
end Tq
namespace Tq
open PySem PySem.Spec PyProof.Rows L2
section
variable {X : Cx} {K : PySem.W.Frag} {H : Hp} {Q : VK} {i j : Int} {σ : L2.St} {a p : Addr} {x y v : V} {xs ys : List V} {ta tb te : TE} {t : TT} {D : Ends} {tr : TA}
theorem l_gt2 {n k m : Nat} {R : L2.St → Hp → Prop} (hn : n = 2) (h : SqT K H a [x, y]) (q : R ((σ.set k (some x)).set m (some y)) H) : gTup K n (gCons (gName k) (gCons (gName m) gNil)) (.ref a) σ H R := ⟨a, _, rfl, h, hn.symm, x, _, rfl, y, _, rfl, rfl, q⟩
theorem l_ifE (q : t σ H fun c H1 => if c = true then ta σ H1 Q else tb σ H1 Q) : tIf t ta tb σ H Q := q
theorem l_un {r : V → Hp → VK → Prop} (q : ta σ H fun x H1 => r x H1 Q) : tUn r ta σ H Q := q
theorem l_neg (q : Q (.int (-i)) H) : (rU fun i => .int (-i)) (.int i) H Q := ⟨i, rfl, q⟩
theorem l_rep {k : Int} (h : H p = some (.lst xs)) (h0 : 0 ≤ k) (h1 : k ≤ 1000000) (hl : xs.length * k.toNat ≤ 1000000) (q : ∀ r, H r = none → Q (.ref r) (upd H r (.lst (List.replicate k.toNat xs).flatten))) : rRep (.ref p) (.int k) H Q := ⟨p, k, xs, rfl, rfl, h, by omega, by omega, fits hl, q⟩
theorem dp_ints : ∀ l : List Int, DpAll K H (l.map V.int) (l.map PyData.int)
  | [] => .nil
  | x :: r => .cons (.int x) (dp_ints r)
theorem ints_ok : ∀ l : List Int, PyData.canLayAll0 (l.map PyData.int) = true ∧ PyData.depthAll (l.map PyData.int) = 0
  | [] => ⟨rfl, rfl⟩
  | x :: r => by
    obtain ⟨a, b⟩ := ints_ok r
    rw [List.map_cons]
    constructor
    · show (PyData.canLay0 (.int x) && PyData.canLayAll0 (r.map PyData.int)) = true
      rw [a]; rfl
    · show max (PyData.depth (.int x)) (PyData.depthAll (r.map PyData.int)) = 0
      rw [b]; rfl
theorem ints_shaped (l : List Int) : SeqAt.shaped (.tuple (l.map PyData.int)) = true := by
  obtain ⟨a, b⟩ := ints_ok l
  show (PyData.canLayAll0 (l.map PyData.int) && decide (PyData.depthAll (l.map PyData.int) + 1 ≤ 64)) = true
  rw [a, b]; rfl
theorem ints_can (l : List Int) : PyData.canLay (.tuple (l.map PyData.int)) = true ∨ True := .inr trivial
theorem eqv_ints : ∀ l r : List Int, PyData.eqvAll (l.map PyData.int) (r.map PyData.int) = decide (l = r)
  | [], [] => by simp [PyData.eqvAll]
  | [], _ :: _ => by simp [PyData.eqvAll]
  | _ :: _, [] => by simp [PyData.eqvAll]
  | x :: l, y :: r => by
    rw [List.map_cons, List.map_cons, PyData.eqvAll, PyData.eqv, eqv_ints l r]
    by_cases e : x = y <;> simp [e]
theorem l_neInts {q1 q2 : Addr} {zs us : List Int} (h1 : SqT K H q1 (zs.map V.int)) (h2 : SqT K H q2 (us.map V.int)) (q : Q (.bl (!decide (zs = us))) H) : rNeD K (.ref q1) (.ref q2) H Q := by
  refine ⟨.tuple (zs.map .int), .tuple (us.map .int), .tup h1 (dp_ints zs), .tup h2 (dp_ints us), ints_shaped zs, ints_shaped us, ?_⟩
  have e : PyData.eqv (.tuple (zs.map PyData.int)) (.tuple (us.map PyData.int)) = decide (zs = us) := eqv_ints zs us
  rw [e]; exact q
theorem l_eqInts {q1 q2 : Addr} {zs us : List Int} (h1 : SqT K H q1 (zs.map V.int)) (h2 : SqT K H q2 (us.map V.int)) (q : Q (.bl (decide (zs = us))) H) : rEqD K (.ref q1) (.ref q2) H Q := by
  refine ⟨.tuple (zs.map .int), .tuple (us.map .int), .tup h1 (dp_ints zs), .tup h2 (dp_ints us), ints_shaped zs, ints_shaped us, ?_⟩
  have e : PyData.eqv (.tuple (zs.map PyData.int)) (.tuple (us.map PyData.int)) = decide (zs = us) := eqv_ints zs us
  rw [e]; exact q
/-- tuple(xs[:n]) -/
theorem l_tupTake {n : Int} {xs : List Int} (h : H p = some (.lst (xs.map V.int))) (h0 : 0 ≤ n) (h1 : n ≤ xs.length) (q : ∀ r H', Same H H' → H r = none → H' r = some (.tup ((xs.take n.toNat).map V.int)) → Q (.ref r) H') :
    rSlL K (.ref p) none (some n) H fun v H1 => rTupQ K [v] H1 Q := by
  refine l_slL (sqL h) fun g ng => ?_
  rw [cut_hi h0 (by rw [List.length_map]; omega), ← List.map_take]
  refine l_tupL (sqL upd_same) fun r nr => ?_
  have s1 := new_same (o := .lst ((xs.take n.toNat).map V.int)) ng
  exact q r _ (s1.trans (new_same nr)) (s1.free nr) upd_same
theorem ints_get {xs : List Int} {k : Nat} {x : V} (h : (xs.map V.int)[k]? = some x) : ∃ z, xs[k]? = some z ∧ x = .int z := by
  rw [List.getElem?_map] at h
  obtain ⟨z, e, rfl⟩ := Option.map_eq_some_iff.mp h
  exact ⟨z, e, rfl⟩
theorem ints_at {xs : List Int} {k : Int} (h0 : 0 ≤ k) (h1 : k < xs.length) : atI (xs.map V.int) k = some (.int (xs.getD k.toNat 0)) ∧ (xs.map V.int)[k.toNat]? = some (.int (xs.getD k.toNat 0)) ∧ xs[k.toNat]? = some (xs.getD k.toNat 0) := by
  obtain ⟨z, e1, e2⟩ := atI_map (f := V.int) h0 h1
  have e3 := getD_some e2
  rw [e3]
  exact ⟨e1, by rw [List.getElem?_map, e2]; rfl, e2⟩
theorem drop_get {xs : List Int} {k : Nat} {z : Int} (h : xs[k]? = some z) : xs.drop k = z :: xs.drop (k + 1) := by
  obtain ⟨l, e⟩ := List.getElem?_eq_some_iff.mp h
  rw [← e]; exact (List.getElem_cons_drop l).symm
theorem rep_zero (n : Nat) : (List.replicate n [V.int 0]).flatten = (List.replicate n (0 : Int)).map V.int := by
  induction n with
  | zero => rfl
  | succ n ih => rw [List.replicate_succ, List.flatten_cons, ih, List.replicate_succ, List.map_cons]; rfl
theorem ints_nat {xs : List Int} {k : Nat} (h : k < xs.length) : atI (xs.map V.int) (k : Int) = some (.int (xs.getD k 0)) ∧ (xs.map V.int)[k]? = some (.int (xs.getD k 0)) ∧ xs[k]? = some (xs.getD k 0) := by
  have := ints_at (xs := xs) (k := (k : Int)) (by omega) (by omega)
  rwa [Int.toNat_natCast] at this
theorem getD_l1 (xs : List Int) (k : Nat) : (xs.getD k 0).natAbs ≤ l1 xs := by
  by_cases h : k < xs.length
  · exact l1_mem (List.mem_of_getElem? (ints_nat h).2.2)
  · rw [getD_none (by omega)]; exact Nat.zero_le _
theorem add_l1 {xs ys : List Int} {z : Int} (h : z ∈ addL xs ys) : z.natAbs ≤ l1 xs + l1 ys := by
  obtain ⟨k, _, rfl⟩ := List.mem_map.mp (trim_sub _ z h)
  have a := getD_l1 xs k
  have b := getD_l1 ys k
  omega
def widths : List Int := [0, 999999998, 30000, 900, 170, 60, 30, 18, 12]
theorem widths_ok {k : Nat} {z : Int} (h : widths[k]? = some z) : 0 ≤ z ∧ z < 1000000000 ∧ (z.toNat + 1) ^ k ≤ 1000000000 := by
  have l : k < 9 := (List.getElem?_eq_some_iff.mp h).1
  have a : ∀ i : Fin 9, 0 ≤ widths.getD i 0 ∧ widths.getD i 0 < 1000000000 ∧ ((widths.getD i 0).toNat + 1) ^ (i : Nat) ≤ 1000000000 := by decide +kernel
  have := a ⟨k, l⟩
  rw [getD_some h] at this
  exact this
theorem pow_le {a b i k : Nat} (h : a ≤ b) (hi : i ≤ k) (h1 : (b + 1) ^ k ≤ 1000000000) : (a + 1) ^ i ≤ 1000000000 :=
  Nat.le_trans (Nat.le_trans (Nat.pow_le_pow_left (by omega) i) (Nat.pow_le_pow_right (by omega) hi)) h1
end
end Tq
open PySem PySem.Spec PyProof.Rows L2 Tq
local macro_rules | `(tactic| walk_at "look") => `(tactic| first | assumption | exact upd_same | (rw [upd_ne (by first | assumption | (apply Ne.symm; assumption))]; walk_at "look"))
local macro_rules | `(tactic| walk_at "s") => `(tactic| first
  | with_reducible refine' l_seq ?_
  | with_reducible refine' l_next ?_
  | with_reducible refine' l_asg ?_
  | with_reducible refine' l_gname ?_
  | with_reducible refine' l_gsub ?_
  | with_reducible refine' l_c ?_
  | ((with_reducible refine' l_var ?k1 ?_); (case k1 => exact rfl))
  | with_reducible refine' l_op ?_
  | with_reducible refine' l_cb ?_
  | with_reducible refine' l_nil ?_
  | with_reducible refine' l_cons ?_
  | with_reducible refine' l_call ?_
  | with_reducible refine' l_callN ?_
  | with_reducible refine' l_callD ?_
  | with_reducible refine' l_andV ?_
  | with_reducible refine' l_orT ?_
  | with_reducible refine' l_isN ?_
  | with_reducible refine' l_notN ?_
  | with_reducible refine' l_dnew ?_
  | with_reducible refine' l_orV ?_
  | with_reducible refine' l_notV ?_
  | with_reducible refine' l_jsN ?_
  | with_reducible refine' l_jsC ?_
  | with_reducible refine' l_fmtS ?_
  | with_reducible refine' l_rng2 ?_
  | with_reducible refine' l_ifs ?_
  | with_reducible refine' l_test ?_
  | with_reducible refine' l_b ?_
  | with_reducible refine' l_bl ?_
  | with_reducible refine' l_not ?_
  | with_reducible refine' l_or ?_
  | with_reducible refine' l_and ?_
  | with_reducible refine' l_ret ?_
  | with_reducible refine' l_drop ?_
  | with_reducible refine' l_lst ?_
  | with_reducible refine' l_lc ?_
  | with_reducible refine' l_for ?_
  | with_reducible refine' l_rng1 ?_
  | with_reducible refine' l_ilist ?_
  | with_reducible refine' l_itup ?_
  | with_reducible refine' l_yes ?_
  | ((with_reducible refine' And.intro (l_tyL ?k1) ?_); (case k1 => exact sqL (by walk_at "look")))
  | ((with_reducible refine' l_aug ?k1 ?_); (case k1 => exact rfl))
  | with_reducible refine' l_augS ?_
  | with_reducible refine' l_subB ?_
  | with_reducible refine' l_par ?_
  | with_reducible refine' l_intB ?_
  | ((with_reducible refine' l_mulX ?k1 ?_); (case k1 => assumption))
  | with_reducible refine' l_dc ?_
  | with_reducible refine' l_nd0 ?_
  | ((with_reducible refine' l_ixN ?k1 ?k2 ?k3 ?k4 ?_); (case k1 => exact sqL (by walk_at "look")); (case k2 => omega); (case k3 => omega); (case k4 => assumption))
  | with_reducible refine' l_enT ?_
  | with_reducible refine' l_revT ?_
  | with_reducible refine' l_isII ?_
  | with_reducible refine' l_isIB ?_
  | with_reducible refine' l_ipI ?_
  | with_reducible refine' l_ifE ?_
  | with_reducible refine' l_un ?_
  | with_reducible refine' l_neg ?_
  | with_reducible refine' l_sl0 ?_
  | with_reducible refine' l_np ?_
  | with_reducible refine' l_tup ?_
  | with_reducible refine' l_bm ?_
  | with_reducible refine' l_add ?_
  | with_reducible refine' l_sub ?_
  | with_reducible refine' l_lt ?_
  | with_reducible refine' l_le ?_
  | with_reducible refine' l_gt ?_
  | with_reducible refine' l_ge ?_
  | with_reducible refine' l_eqI ?_
  | with_reducible refine' l_neI ?_
  | with_reducible refine' l_int ?_
  | with_reducible refine' l_abs ?_
  | with_reducible refine' l_max ?_
  | with_reducible refine' l_min ?_
  | ((with_reducible refine' l_mod ?k1 ?_); (case k1 => first | decide | omega))
  | ((with_reducible refine' l_div ?k1 ?_); (case k1 => exact ⟨by omega, by omega⟩))
  | ((with_reducible refine' l_mul ?k1 ?_); (case k1 => first | assumption | exact Or.inr ⟨by decide, by decide⟩ | exact Or.inl ⟨by omega, by omega⟩))
  | ((with_reducible refine' l_pow ?k1 ?_); (case k1 => exact ⟨by decide, by decide, by decide⟩))
  | ((with_reducible refine' l_ixL ?k1 ?k2 ?_); (case k1 => exact sqL (by walk_at "look")); (case k2 => first | exact rfl | assumption))
  | ((with_reducible refine' l_setL ?k1 ?k2 ?_); (case k1 => walk_at "look"); (case k2 => first | exact rfl | assumption))
  | ((with_reducible refine' l_lenL ?k1 ?_); (case k1 => exact sqL (by walk_at "look")))
  | ((with_reducible refine' l_ixS ?k1 ?k2 ?_); (case k1 => first | assumption | decide); (case k2 => first | assumption | exact rfl))
  | ((with_reducible refine' l_mulS ?k1 ?_); (case k1 => first | assumption | exact ⟨by show 1 ≤ 1000; decide, by omega, by omega⟩))
  | ((with_reducible refine' l_addS ?k1 ?_); (case k1 => first | assumption | (first | decide | omega)))
  | ((with_reducible refine' l_isTT ?k1 ?_); (case k1 => first | assumption | exact sqT (by walk_at "look")))
  | with_reducible refine' l_isSS ?_
  | ((with_reducible refine' l_isTS ?k1 ?_); (case k1 => first | assumption | exact sqT (by walk_at "look")))
  | with_reducible refine' l_isNS ?_
  | ((with_reducible refine' l_app ?k1 ?k2 ?_); (case k1 => walk_at "look"); (case k2 => assumption))
  | ((with_reducible refine' l_ixT ?k1 ?k2 ?_); (case k1 => first | assumption | exact sqT (by walk_at "look")); (case k2 => first | assumption | exact rfl))
  | ((with_reducible refine' l_lenT ?k1 ?_); (case k1 => first | assumption | exact sqT (by walk_at "look")))
  | with_reducible refine' l_ltS ?_
  | with_reducible refine' l_leS ?_
  | with_reducible refine' l_eqS ?_
  | with_reducible refine' l_neS ?_
  | with_reducible refine' l_ifNT ?_
  | with_reducible refine' l_ifNF ?_
  | with_reducible refine' l_ifT ?_
  | with_reducible refine' l_ifF ?_)
local macro_rules | `(tactic| walk_at "go") => `(tactic| repeat walk_at "s")
namespace K28
open PySem PySem.Spec PyProof.Rows L2 Tq
def topS (i : Nat) : Stmt := PySem.Challenge.pw_migraproof_k28_arithmetic_of_polynomials.main.body.getD i (.Pass ⟨0, 0, 0, 0⟩)
abbrev s_value_at : Stmt := topS 1
theorem sc_value_at : FnScope ["polynomial", "n", "value", "coefficient"] ["polynomial", "n"] (defScope s_value_at) := ⟨rfl, rfl, rfl, by decide +kernel, rfl, by decide +kernel, by decide +kernel⟩
abbrev s_added : Stmt := topS 2
theorem sc_added : FnScope ["first", "second", "shorter", "longer", "coefficients", "power", "coefficient"] ["first", "second"] (defScope s_added) := ⟨rfl, rfl, rfl, by decide +kernel, rfl, by decide +kernel, by decide +kernel⟩
abbrev s_multiplied : Stmt := topS 3
theorem sc_multiplied : FnScope ["first", "second", "coefficients", "power", "coefficient", "other_power", "other"] ["first", "second"] (defScope s_multiplied) := ⟨rfl, rfl, rfl, by decide +kernel, rfl, by decide +kernel, by decide +kernel⟩
abbrev s_falling : Stmt := topS 4
theorem sc_falling : FnScope ["start", "many", "polynomial", "step"] ["start", "many"] (defScope s_falling) := ⟨rfl, rfl, rfl, by decide +kernel, rfl, by decide +kernel, by decide +kernel⟩
abbrev s_without_last_zeros : Stmt := topS 5
theorem sc_without_last_zeros : FnScope ["coefficients", "many"] ["coefficients"] (defScope s_without_last_zeros) := ⟨rfl, rfl, rfl, by decide +kernel, rfl, by decide +kernel, by decide +kernel⟩
abbrev s_law_tape : Stmt := topS 7
theorem sc_law_tape : FnScope ["script", "total", "cell"] ["script"] (defScope s_law_tape) := ⟨rfl, rfl, rfl, by decide +kernel, rfl, by decide +kernel, by decide +kernel⟩
abbrev s_law_draw : Stmt := topS 8
theorem sc_law_draw : FnScope ["tape", "many", "place", "number"] ["tape", "many"] (defScope s_law_draw) := ⟨rfl, rfl, rfl, by decide +kernel, rfl, by decide +kernel, by decide +kernel⟩
abbrev s_law_trimmed : Stmt := topS 9
theorem sc_law_trimmed : FnScope ["numbers", "last", "k"] ["numbers"] (defScope s_law_trimmed) := ⟨rfl, rfl, rfl, by decide +kernel, rfl, by decide +kernel, by decide +kernel⟩
abbrev s_law_plus : Stmt := topS 10
theorem sc_law_plus : FnScope ["first", "second", "numbers", "k", "number"] ["first", "second"] (defScope s_law_plus) := ⟨rfl, rfl, rfl, by decide +kernel, rfl, by decide +kernel, by decide +kernel⟩
abbrev s_law_times : Stmt := topS 11
theorem sc_law_times : FnScope ["first", "second", "numbers", "k", "j"] ["first", "second"] (defScope s_law_times) := ⟨rfl, rfl, rfl, by decide +kernel, rfl, by decide +kernel, by decide +kernel⟩
abbrev s_law_value : Stmt := topS 12
theorem sc_law_value : FnScope ["polynomial", "n", "total", "k"] ["polynomial", "n"] (defScope s_law_value) := ⟨rfl, rfl, rfl, by decide +kernel, rfl, by decide +kernel, by decide +kernel⟩
abbrev s_law_falling : Stmt := topS 13
theorem sc_law_falling : FnScope ["start", "many", "product", "k"] ["start", "many"] (defScope s_law_falling) := ⟨rfl, rfl, rfl, by decide +kernel, rfl, by decide +kernel, by decide +kernel⟩
abbrev s_law_polynomial : Stmt := topS 14
theorem sc_law_polynomial : FnScope ["tape", "most", "many", "choice", "width", "k", "product"] ["tape", "most"] (defScope s_law_polynomial) := ⟨rfl, rfl, rfl, by decide +kernel, rfl, by decide +kernel, by decide +kernel⟩
abbrev s_law_wholes : Stmt := topS 15
theorem sc_law_wholes : FnScope ["told", "number"] ["told"] (defScope s_law_wholes) := ⟨rfl, rfl, rfl, by decide +kernel, rfl, by decide +kernel, by decide +kernel⟩
abbrev s_law : Stmt := topS 16
theorem sc_law : FnScope ["script", "tape", "first", "second", "number", "n", "told", "start", "many", "due", "k"] ["script"] (defScope s_law) := ⟨rfl, rfl, rfl, by decide +kernel, rfl, by decide +kernel, by decide +kernel⟩
structure Txt (mg : Str → Option Value) : Prop where
  b_abs : mg "abs" = none
  b_bool : mg "bool" = none
  b_enumerate : mg "enumerate" = none
  b_int : mg "int" = none
  b_isinstance : mg "isinstance" = none
  b_len : mg "len" = none
  b_list : mg "list" = none
  b_max : mg "max" = none
  b_min : mg "min" = none
  b_range : mg "range" = none
  b_reversed : mg "reversed" = none
  b_tuple : mg "tuple" = none
structure Ds (K : PySem.W.Frag) (mg : Str → Option Value) where
  value_at : Df K mg "value_at" s_value_at ["polynomial", "n"]
  added : Df K mg "added" s_added ["first", "second"]
  multiplied : Df K mg "multiplied" s_multiplied ["first", "second"]
  falling : Df K mg "falling" s_falling ["start", "many"]
  without_last_zeros : Df K mg "without_last_zeros" s_without_last_zeros ["coefficients"]
  law_tape : Df K mg "_law_tape" s_law_tape ["script"]
  law_draw : Df K mg "_law_draw" s_law_draw ["tape", "many"]
  law_trimmed : Df K mg "_law_trimmed" s_law_trimmed ["numbers"]
  law_plus : Df K mg "_law_plus" s_law_plus ["first", "second"]
  law_times : Df K mg "_law_times" s_law_times ["first", "second"]
  law_value : Df K mg "_law_value" s_law_value ["polynomial", "n"]
  law_falling : Df K mg "_law_falling" s_law_falling ["start", "many"]
  law_polynomial : Df K mg "_law_polynomial" s_law_polynomial ["tape", "most"]
  law_wholes : Df K mg "_law_wholes" s_law_wholes ["told"]
  law : Df K mg "law" s_law ["script"]
end K28
namespace K28
open PySem PySem.Spec PyProof.Rows L2 Tq
section
variable {P : Program} {w : World} {K : PySem.W.Frag} {mg : Str → Option Value} {base : Heap}
def spVal (K : PySem.W.Frag) : Sp := fun vs H Q _ => ∃ (p : Addr) (xs : List Int) (n : Int), vs = [.ref p, .int n] ∧ SqT K H p (xs.map V.int) ∧ xs.length ≤ 1000 ∧ -(2 ^ 64) < n ∧ n < 2 ^ 64 ∧ Q (.int (valL xs n)) H

theorem ok_value_at (D : Ds K mg) (T : Txt mg) : FnOk P w K mg base CX0 1 D.value_at.f D.value_at.fd ["polynomial", "n"] (spVal K) := by
  have sc := sc_value_at
  refine D.value_at.F.ok sc (fun vs H Q E h => ?_) (fun cdv A outer s H vs Q E hr h => ?_)
  · obtain ⟨p, xs, n, rfl, _⟩ := h
    rfl
  · obtain ⟨p, xs, n, rfl, hS, xl, n0, n1, q⟩ := h
    refine ⟨_, (pss_cons (ps_set (i := 2) sc.nd rfl (Or.inl rfl) pe_int)
    (pss_cons (ps_for PassesOwn.never rfl (k_revA (K := K) rfl (by rfl) T.b_reversed (pv 0)) (pg_name (i := 3) sc.nd rfl (Or.inl rfl)) (pss_one (ps_set (i := 2) sc.nd rfl (Or.inl rfl) (pe_op o_add (pe_op o_mul (pv 2) (pv 1)) (pv 3)))))
    (pss_one (ps_ret (pv 2))))), ?_⟩
    walk_at "go"
    have c : ∀ z : Int, CMul z n := fun z => .inr ⟨n0, n1⟩
    refine ⟨p, _, rfl, .inr ⟨hS, RT.for_ItvT (fun i σ H' => ∃ y : Option V, σ = [some (.ref p), some (.int n), some (.int (valL (xs.drop (xs.length - i)) n)), y] ∧ H' = H) ⟨none, by rw [Nat.sub_zero, List.drop_length]; rfl, rfl⟩ ?_ ?_ ?_⟩⟩
    · rintro i σ H' ⟨y, rfl, rfl⟩
      exact hS
    · rintro i x σ H' il hx ⟨y, rfl, rfl⟩
      rw [List.length_map] at il hx
      obtain ⟨z, hz, rfl⟩ := ints_get hx
      have cc := c (valL (xs.drop (xs.length - i)) n)
      walk_at "go"
      refine ⟨some (.int z), ?_, rfl⟩
      have e : xs.drop (xs.length - (i + 1)) = z :: xs.drop (xs.length - i) := by
        rw [show xs.length - (i + 1) = xs.length - 1 - i by omega, show xs.length - i = xs.length - 1 - i + 1 by omega]
        exact (List.getElem_cons_drop (by omega)).symm.trans (by rw [(List.getElem?_eq_some_iff.mp hz).2])
      rw [e]; rfl
    · rintro σ H' ⟨y, rfl, rfl⟩
      walk_at "go"
      show Q _ _
      rw [List.length_map, Nat.sub_self]
      exact q
end
end K28
namespace K28
open PySem PySem.Spec PyProof.Rows L2 Tq
section
variable {P : Program} {w : World} {K : PySem.W.Frag} {mg : Str → Option Value} {base : Heap}
def spTrim (K : PySem.W.Frag) : Sp := fun vs H Q _ => ∃ (p : Addr) (xs : List Int), vs = [.ref p] ∧ H p = some (.lst (xs.map V.int)) ∧ xs.length ≤ 1000 ∧ ∀ (d : Addr) (H' : Hp), Same H H' → H d = none → H' d = some (.tup ((trim xs).map V.int)) → Q (.ref d) H'

theorem ok_without_last_zeros (D : Ds K mg) (T : Txt mg) : FnOk P w K mg base CX0 1 D.without_last_zeros.f D.without_last_zeros.fd ["coefficients"] (spTrim K) := by
  have sc := sc_without_last_zeros
  refine D.without_last_zeros.F.ok sc (fun vs H Q E h => ?_) (fun cdv A outer s H vs Q E hr h => ?_)
  · obtain ⟨p, xs, rfl, _⟩ := h
    rfl
  · obtain ⟨p, xs, rfl, hS, xl, q⟩ := h
    refine ⟨_, (pss_cons (ps_set (i := 1) sc.nd rfl (Or.inl rfl) (pe_callB (k_len (K := K) rfl) (by rfl) T.b_len PySem.boot_len (pa_cons (pv 0) pa_nil)))
    (pss_cons (ps_while PassesOwn.never (PW.pt (pw_and (pt_truth (pv 1) (by intro _; rfl)) (pw_and1 (pt_cmpR op_eq (pe_ix (k_ixL (K := K) rfl) (pv 0) (pe_op o_sub (pv 1) pe_int) (fun _ _ => rfl)) pe_int (nomark _))))) (pss_one (ps_aug (i := 1) sc.nd rfl (Or.inl rfl) pe_int ip_sub)))
    (pss_one (ps_ret (pe_callTy (k_tuple (K := K) rfl) (by rfl) T.b_tuple (by decide +kernel) (pa_cons (pe_slice (k_slL (K := K) rfl) (pv 0) po_none (po_some (pv 1))) pa_nil)))))), ?_⟩
    walk_at "go"
    refine l_while (fun m σ H' => ∃ k : Nat, σ = [some (.ref p), some (.int k)] ∧ m = k ∧ k ≤ xs.length ∧ (∀ z ∈ xs.drop k, z = 0) ∧ H' = H) xs.length ⟨xs.length, by rw [List.length_map]; rfl, rfl, Nat.le_refl _, by simp, rfl⟩ ?_
    rintro k σ H' ⟨_, rfl, rfl, kl, hz, rfl⟩
    have fin : trim xs = xs.take k → tRet (tCB (rTupQ K) (tCons (tSl (rSlL K) (tVar 0) tNoPart (tPart (tVar 1))) tNil)) { nx := fun x H' => Q V.non H', rt := Q } [some (.ref p), some (.int k)] H' := fun e => by
      walk_at "go"
      refine l_part ?_
      walk_at "go"
      refine ⟨_, rfl, ?_⟩
      refine l_tupTake hS (by omega) (by omega) fun r H1 S1 n1 h1 => ?_
      rw [Int.toNat_natCast, ← e] at h1
      exact q r H1 S1 n1 h1
    refine l_and ?_
    refine ⟨_, rfl, ((k : Int) != 0), rfl, ?_⟩
    refine l_if2 (fun c1 => ?_) (fun c1 => ?_)
    · have k0 : k ≠ 0 := fun e => by subst e; simp at c1
      obtain ⟨e1, _, e3⟩ := ints_at (xs := xs) (k := (k : Int) - 1) (by omega) (by omega)
      generalize xs.getD ((k : Int) - 1).toNat 0 = z at e1 e3
      rw [show ((k : Int) - 1).toNat = k - 1 by omega] at e3
      walk_at "go"
      refine l_if (fun c2 => ?_) (fun c2 => ?_)
      · subst c2
        refine ⟨fun σ' H' => ∃ m', m' < k ∧ _, fun _ _ h => h, ?_⟩
        walk_at "go"
        refine ⟨k - 1, by omega, k - 1, by rw [show ((k : Int) - 1) = ((k - 1 : Nat) : Int) by omega]; rfl, rfl, by omega, fun y hy => ?_, rfl⟩
        have e4 := drop_get e3
        rw [show k - 1 + 1 = k by omega] at e4
        rw [e4] at hy
        rcases List.mem_cons.mp hy with h | h
        · exact h
        · exact hz y h
      · exact fin (trim_of hz kl fun j e => by
          subst e
          rw [show j + 1 - 1 = j by omega] at e3
          rw [e3]
          exact fun h => c2 (Option.some.inj h))
    · have k0 : k = 0 := by simpa using c1
      subst k0
      exact fin (trim_of hz kl fun j e => by omega)
end
end K28
namespace K28
open PySem PySem.Spec PyProof.Rows L2 Tq
section
variable {P : Program} {w : World} {K : PySem.W.Frag} {mg : Str → Option Value} {base : Heap}
def spAdd (K : PySem.W.Frag) : Sp := fun vs H Q _ => ∃ (p r : Addr) (xs ys : List Int), vs = [.ref p, .ref r] ∧ SqT K H p (xs.map V.int) ∧ SqT K H r (ys.map V.int) ∧ xs.length ≤ 400 ∧ ys.length ≤ 400 ∧ ∀ (d : Addr) (H' : Hp), Same H H' → H d = none → H' d = some (.tup ((addL xs ys).map V.int)) → Q (.ref d) H'

theorem ok_added (D : Ds K mg) (T : Txt mg) : FnOk P w K mg base CX0 2 D.added.f D.added.fd ["first", "second"] (spAdd K) := by
  have sc := sc_added
  refine D.added.F.ok sc (fun vs H Q E h => ?_) (fun cdv A outer s H vs Q E hr h => ?_)
  · obtain ⟨p, r, xs, ys, rfl, _⟩ := h
    rfl
  · obtain ⟨p, r, xs, ys, rfl, h1, h2, l1, l2, q⟩ := h
    refine ⟨_, (pss_cons (ps_asg (pe_ifExp (pt_cmpR o_lt (pe_callB (k_len (K := K) rfl) (by rfl) T.b_len PySem.boot_len (pa_cons (pv 0) pa_nil)) (pe_callB (k_len (K := K) rfl) (by rfl) T.b_len PySem.boot_len (pa_cons (pv 1) pa_nil)) (nomark _)) (pe_tup (pa_cons (pv 0) (pa_cons (pv 1) pa_nil))) (pe_tup (pa_cons (pv 1) (pa_cons (pv 0) pa_nil)))) (pg_tup (by rfl) (pgs_cons (pg_name (i := 2) sc.nd rfl (Or.inl rfl)) (pgs_cons (pg_name (i := 3) sc.nd rfl (Or.inl rfl)) pgs_nil))))
    (pss_cons (ps_set (i := 4) sc.nd rfl (Or.inl rfl) (pe_callTy (k_list (K := K) rfl) (by rfl) T.b_list (by decide +kernel) (pa_cons (pv 3) pa_nil)))
    (pss_cons (ps_for PassesOwn.never rfl (k_enT (K := K) rfl (by rfl) T.b_enumerate (pa_cons (pv 2) pa_nil)) (pg_tup (by rfl) (pgs_cons (pg_name (i := 5) sc.nd rfl (Or.inl rfl)) (pgs_cons (pg_name (i := 6) sc.nd rfl (Or.inl rfl)) pgs_nil))) (pss_one (ps_augS (pv 4) (pv 5) (gt_list (K := K) rfl) (pv 6) ip_add set_list)))
    (pss_one (ps_ret (pe_call (ok_without_last_zeros D T) hr (by rfl) D.without_last_zeros.g D.without_last_zeros.F.kp D.without_last_zeros.b .nil pass0 (pa_cons (pv 4) pa_nil))))))), ?_⟩
    with_reducible refine' l_cut (fun σ' H' => ∃ (a b : Addr) (s l : List Int), σ' = [some (.ref p), some (.ref r), some (.ref a), some (.ref b), none, none, none] ∧ SqT K H' a (s.map V.int) ∧ SqT K H' b (l.map V.int) ∧ s.length ≤ l.length ∧ l.length ≤ 400 ∧ addL s l = addL xs ys ∧ Same H H') (fun N hN => ?_) ?_
    · walk_at "go"
      rw [List.length_map, List.length_map]
      refine l_if (fun c1 => ?_) (fun c1 => ?_)
      · walk_at "go"
        refine ⟨by show 2 ≤ sizeLine; decide, fun t nt => ?_⟩
        have s1 := new_same (o := .tup [.ref p, .ref r]) nt
        refine l_gt2 rfl (sqT upd_same) ?_
        exact hN _ _ ⟨p, r, xs, ys, rfl, s1.seqT h1, s1.seqT h2, by omega, l2, rfl, s1⟩
      · walk_at "go"
        refine ⟨by show 2 ≤ sizeLine; decide, fun t nt => ?_⟩
        have s1 := new_same (o := .tup [.ref r, .ref p]) nt
        refine l_gt2 rfl (sqT upd_same) ?_
        exact hN _ _ ⟨r, p, ys, xs, rfl, s1.seqT h2, s1.seqT h1, by omega, l1, by unfold addL; rw [sumL_comm, Nat.max_comm], s1⟩
    rintro σ' H1 ⟨a, b, u, l, rfl, g1, g2, ul, ll, e, S1⟩
    rw [← e] at q
    walk_at "go"
    refine ⟨_, _, rfl, .inr g2, fun c nc => ?_⟩
    have S2 := new_same (o := .lst (l.map V.int)) nc
    walk_at "go"
    refine ⟨a, _, rfl, S2.seqT g1, for_enT (xs := u.map V.int) (fun i σ H' => ∃ y1 y2 : Option V, σ = [some (.ref p), some (.ref r), some (.ref a), some (.ref b), some (.ref c), y1, y2] ∧ Same H1 H' ∧ H' c = some (.lst ((sumP l u i).map V.int))) ⟨none, none, rfl, S2, by rw [sumP_zero]; exact upd_same⟩ ?_ ?_ ?_⟩
    · rintro i σ H' _ ⟨y1, y2, rfl, sm, hc⟩
      exact sm.seqT g1
    · rintro i x σ H' t hx ⟨y1, y2, rfl, sm, hc⟩ nt
      obtain ⟨z, hz, rfl⟩ := ints_get hx
      have il : i < u.length := (List.getElem?_eq_some_iff.mp hz).1
      have s3 := new_same (o := .tup [.int (i : Nat), .int z]) nt
      refine l_gt2 rfl (sqT upd_same) ?_
      have hc3 := s3 _ _ hc
      have e1 : ((sumP l u i).map V.int)[(i : Int).toNat]? = some (V.int (l.getD i 0)) := by
        rw [Int.toNat_natCast, List.getElem?_map, sumP_get (by omega), if_neg (by omega), Int.add_zero]; rfl
      have e2 : ixN ((sumP l u i).map V.int).length (i : Int) = some i := by
        rw [List.length_map, sumP_len]
        unfold ixN
        rw [if_pos (by omega), if_pos (by omega), Int.toNat_natCast]
      walk_at "go"
      refine ⟨_, _, rfl, ?_, ?_⟩
      · intro b' o hb
        rw [upd_ne (ne_of_none hb nc)]
        exact s3 _ _ (sm _ _ hb)
      · rw [upd_same, ← getD_some hz, ← List.map_set, sumP_succ (by omega)]
    · rintro σ H' ⟨y1, y2, rfl, sm, hc⟩
      rw [List.length_map, sumP_all ul] at hc
      walk_at "go"
      refine ⟨c, _, rfl, hc, by rw [sumL_len]; omega, fun d H2 S2 n2 h2 => ?_⟩
      walk_at "go"
      show Q _ _
      refine q d H2 ((S1.trans sm).trans S2) ((S1.trans sm).free n2) ?_
      rw [h2]; unfold addL
      rw [Nat.max_eq_right ul, sumL_comm]
end
end K28
namespace K28
open PySem PySem.Spec PyProof.Rows L2 Tq
section
variable {P : Program} {w : World} {K : PySem.W.Frag} {mg : Str → Option Value} {base : Heap}
def spMul (K : PySem.W.Frag) : Sp := fun vs H Q _ => ∃ (p r : Addr) (xs ys : List Int), vs = [.ref p, .ref r] ∧ SqT K H p (xs.map V.int) ∧ SqT K H r (ys.map V.int) ∧ xs.length ≤ 400 ∧ ys.length ≤ 400 ∧ (∀ z ∈ ys, -(2 ^ 64) < z ∧ z < 2 ^ 64) ∧ ∀ (d : Addr) (H' : Hp), Same H H' → H d = none → H' d = some (.tup ((mulL xs ys).map V.int)) → Q (.ref d) H'

theorem ok_multiplied (D : Ds K mg) (T : Txt mg) : FnOk P w K mg base CX0 2 D.multiplied.f D.multiplied.fd ["first", "second"] (spMul K) := by
  have sc := sc_multiplied
  refine D.multiplied.F.ok sc (fun vs H Q E h => ?_) (fun cdv A outer s H vs Q E hr h => ?_)
  · obtain ⟨p, r, xs, ys, rfl, _⟩ := h
    rfl
  · obtain ⟨p, r, xs, ys, rfl, h1, h2, l1, l2, yb, q⟩ := h
    refine ⟨_, (pss_cons (ps_set (i := 2) sc.nd rfl (Or.inl rfl) (pe_op op_rep (pe_lst (pa_cons pe_int pa_nil)) (pe_op o_add (pe_callB (k_len (K := K) rfl) (by rfl) T.b_len PySem.boot_len (pa_cons (pv 0) pa_nil)) (pe_callB (k_len (K := K) rfl) (by rfl) T.b_len PySem.boot_len (pa_cons (pv 1) pa_nil)))))
    (pss_cons (ps_for PassesOwn.never rfl (k_enT (K := K) rfl (by rfl) T.b_enumerate (pa_cons (pv 0) pa_nil)) (pg_tup (by rfl) (pgs_cons (pg_name (i := 3) sc.nd rfl (Or.inl rfl)) (pgs_cons (pg_name (i := 4) sc.nd rfl (Or.inl rfl)) pgs_nil))) (pss_one (ps_for PassesOwn.never rfl (k_enT (K := K) rfl (by rfl) T.b_enumerate (pa_cons (pv 1) pa_nil)) (pg_tup (by rfl) (pgs_cons (pg_name (i := 5) sc.nd rfl (Or.inl rfl)) (pgs_cons (pg_name (i := 6) sc.nd rfl (Or.inl rfl)) pgs_nil))) (pss_one (ps_augS (pv 2) (pe_op o_add (pv 3) (pv 5)) (gt_list (K := K) rfl) (pe_op o_mul (pv 4) (pv 6)) ip_add set_list)))))
    (pss_one (ps_ret (pe_call (ok_without_last_zeros D T) hr (by rfl) D.without_last_zeros.g D.without_last_zeros.F.kp D.without_last_zeros.b .nil pass0 (pa_cons (pv 2) pa_nil)))))), ?_⟩
    walk_at "go"
    refine ⟨by show 1 ≤ sizeLine; decide, fun t nt => ?_⟩
    walk_at "go"
    have sp := new_same (o := .lst [V.int 0]) nt
    refine l_lenT (sp.seqT h1) ?_
    walk_at "go"
    refine l_lenT (sp.seqT h2) ?_
    walk_at "go"
    rw [List.length_map, List.length_map]
    refine l_rep upd_same (by omega) (by omega) (by simp; omega) fun c nc => ?_
    rw [show ((xs.length : Int) + (ys.length : Int)).toNat = xs.length + ys.length by omega, rep_zero]
    have nc0 := sp.free nc
    have S1 := sp.trans (new_same (o := .lst ((List.replicate (xs.length + ys.length) (0 : Int)).map V.int)) nc)
    walk_at "go"
    refine ⟨p, _, rfl, S1.seqT h1, for_enT (xs := xs.map V.int) (fun i σ H' => ∃ y1 y2 y3 y4 : Option V, σ = [some (.ref p), some (.ref r), some (.ref c), y1, y2, y3, y4] ∧ Same H H' ∧ H' c = some (.lst ((out xs ys i).map V.int))) ⟨none, none, none, none, rfl, S1, upd_same⟩ ?_ ?_ ?_⟩
    · rintro i σ H' _ ⟨y1, y2, y3, y4, rfl, sm, hc⟩
      exact sm.seqT h1
    · rintro i x σ H' t1 hx ⟨y1, y2, y3, y4, rfl, sm, hc⟩ nt1
      obtain ⟨z, hz, rfl⟩ := ints_get hx
      have il : i < xs.length := (List.getElem?_eq_some_iff.mp hz).1
      refine l_gt2 rfl (sqT upd_same) ?_
      have S3 := new_same (o := .tup [.int (i : Nat), .int z]) nt1
      walk_at "go"
      refine ⟨r, _, rfl, (sm.trans S3).seqT h2, for_enT (xs := ys.map V.int) (fun j σ H' => ∃ y3 y4 : Option V, σ = [some (.ref p), some (.ref r), some (.ref c), some (.int i), some (.int z), y3, y4] ∧ Same H H' ∧ H' c = some (.lst ((inn (out xs ys i) i z ys j).map V.int))) ⟨y3, y4, rfl, sm.trans S3, S3 _ _ hc⟩ ?_ ?_ ?_⟩
      · rintro j σ H2 _ ⟨y3, y4, rfl, sm2, hc2⟩
        exact sm2.seqT h2
      · rintro j x σ H2 t2 hx2 ⟨y3, y4, rfl, sm2, hc2⟩ nt2
        obtain ⟨u, hu, rfl⟩ := ints_get hx2
        have jl : j < ys.length := (List.getElem?_eq_some_iff.mp hu).1
        refine l_gt2 rfl (sqT upd_same) ?_
        have S4 := new_same (o := .tup [.int (j : Nat), .int u]) nt2
        have hc3 := S4 _ _ hc2
        have ll : i + j < (inn (out xs ys i) i z ys j).length := by rw [inn_len, out_len]; omega
        obtain ⟨_, e1, _⟩ := ints_nat ll
        have e2 : ixN ((inn (out xs ys i) i z ys j).map V.int).length ((i : Int) + (j : Int)) = some (i + j) := by
          rw [List.length_map, ← Int.natCast_add]; exact ixN_nat ll
        have e3 : ((inn (out xs ys i) i z ys j).map V.int)[((i : Int) + (j : Int)).toNat]? = some (.int ((inn (out xs ys i) i z ys j).getD (i + j) 0)) := by
          rw [show ((i : Int) + (j : Int)).toNat = i + j by omega]; exact e1
        have c : CMul z u := .inr (yb u (List.mem_of_getElem? hu))
        walk_at "go"
        refine ⟨_, _, rfl, ?_, ?_⟩
        · intro b' o hb
          rw [upd_ne (ne_of_none hb nc0)]
          exact (sm2.trans S4) _ _ hb
        · rw [upd_same, inn, getD_some hu, List.map_set]
      · rintro σ H2 ⟨y3, y4, rfl, sm2, hc2⟩
        rw [List.length_map] at hc2
        show ∃ y1 y2 y3 y4 : Option V, _
        exact ⟨_, _, _, _, rfl, sm2, by rw [hc2, out, getD_some hz]⟩
    · rintro σ H' ⟨y1, y2, y3, y4, rfl, sm, hc⟩
      rw [List.length_map] at hc
      walk_at "go"
      refine ⟨c, _, rfl, hc, by rw [out_len]; omega, fun d H2 S2 n2 h2 => ?_⟩
      walk_at "go"
      show Q _ _
      exact q d H2 (sm.trans S2) (sm.free n2) h2
end
end K28
namespace K28
open PySem PySem.Spec PyProof.Rows L2 Tq
section
variable {P : Program} {w : World} {K : PySem.W.Frag} {mg : Str → Option Value} {base : Heap}
def spFal (K : PySem.W.Frag) : Sp := fun vs H Q _ => ∃ (s m : Int), vs = [.int s, .int m] ∧ 0 ≤ s ∧ s ≤ 1000 ∧ 0 ≤ m ∧ m ≤ 100 ∧ ∀ (d : Addr) (H' : Hp), Same H H' → H d = none → H' d = some (.tup ((falL s m.toNat).map V.int)) → Q (.ref d) H'

theorem ok_falling (D : Ds K mg) (T : Txt mg) : FnOk P w K mg base CX0 3 D.falling.f D.falling.fd ["start", "many"] (spFal K) := by
  have sc := sc_falling
  refine D.falling.F.ok sc (fun vs H Q E h => ?_) (fun cdv A outer s H vs Q E hr h => ?_)
  · obtain ⟨s, m, rfl, _⟩ := h
    rfl
  · obtain ⟨s, m, rfl, s0, s1, m0, m1, q⟩ := h
    refine ⟨_, (pss_cons (ps_set (i := 2) sc.nd rfl (Or.inl rfl) (pe_tup (pa_cons pe_int pa_nil)))
    (pss_cons (ps_for PassesOwn.never rfl (pi_range1 (by rfl) T.b_range (pa_cons (pv 1) pa_nil)) (pg_name (i := 3) sc.nd rfl (Or.inl rfl)) (pss_one (ps_set (i := 2) sc.nd rfl (Or.inl rfl) (pe_call (ok_multiplied D T) hr (by rfl) D.multiplied.g D.multiplied.F.kp D.multiplied.b .nil pass0 (pa_cons (pv 2) (pa_cons (pe_tup (pa_cons (pe_op o_sub (pe_un un_neg (pv 0)) (pv 3)) (pa_cons pe_int pa_nil))) pa_nil))))))
    (pss_one (ps_ret (pv 2))))), ?_⟩
    walk_at "go"
    refine ⟨by show 1 ≤ sizeLine; decide, fun t nt => ?_⟩
    walk_at "go"
    refine ⟨m, rfl, by omega, by omega, ?_⟩
    refine for_range (fun i σ H' => ∃ (d : Addr) (y : Option V), σ = [some (.int s), some (.int m), some (.ref d), y] ∧ Same H H' ∧ H d = none ∧ H' d = some (.tup ((falL s i).map V.int))) ⟨t, none, rfl, new_same nt, nt, upd_same⟩ ?_ ?_
    · rintro i σ H' hi ⟨d, y, rfl, sm, nd, hd⟩
      walk_at "go"
      refine ⟨by show 2 ≤ sizeLine; decide, fun t1 nt1 => ?_⟩
      walk_at "go"
      have s2 := new_same (o := .tup [.int (-s - (0 + (i : Int))), .int 1]) nt1
      have fl := fal_len s i
      refine ⟨d, t1, _, [-s - (0 + (i : Int)), 1], rfl, sqT (s2 _ _ hd), sqT upd_same, by omega, by show 2 ≤ 400; decide, fun z hz => ?_, fun e H3 S3 n3 h3 => ?_⟩
      · simp at hz
        omega
      · walk_at "go"
        refine ⟨e, _, rfl, (sm.trans s2).trans S3, (sm.trans s2).free n3, by rw [h3, falL, show (0 + (i : Int)) = (i : Int) by omega]⟩
    · rintro σ H' ⟨d, y, rfl, sm, nd, hd⟩
      walk_at "go"
      show Q _ _
      exact q d H' sm nd hd
end
end K28
namespace K28
open PySem PySem.Spec PyProof.Rows L2 Tq
section
variable {P : Program} {w : World} {K : PySem.W.Frag} {mg : Str → Option Value} {base : Heap}
def spTape (K : PySem.W.Frag) : Sp := fun vs H Q _ => ∃ (s : Addr) (ns : List Int), vs = [.ref s] ∧ SqL K H s (ns.map V.int) ∧ ns.length ≤ 63 ∧ ∀ (t a : Addr) (H' : Hp), Same H H' → Tape H' t a → H t = none → H a = none → Q (.ref t) H'

theorem ok_law_tape (D : Ds K mg) (T : Txt mg) : FnOk P w K mg base CX0 1 D.law_tape.f D.law_tape.fd ["script"] (spTape K) := by
  have sc := sc_law_tape
  refine D.law_tape.F.ok sc (fun vs H Q E h => ?_) (fun cdv A outer s H vs Q E hr h => ?_)
  · obtain ⟨s0, ns, rfl, _⟩ := h
    rfl
  · obtain ⟨s0, ns, rfl, hS, few, q⟩ := h
    refine ⟨_, (pss_cons (ps_set (i := 1) sc.nd rfl (Or.inl rfl) pe_int)
    (pss_cons (ps_for PassesOwn.never rfl (k_piL (K := K) rfl (pv 0)) (pg_name (i := 2) sc.nd rfl (Or.inl rfl)) (pss_one (ps_set (i := 1) sc.nd rfl (Or.inl rfl) (pe_op o_mod (pe_callTy c_int (by rfl) T.b_int (by decide +kernel) (pa_cons (pe_op o_add (pe_op o_mul (pv 1) pe_int) (pe_callB c_abs (by rfl) T.b_abs (by decide +kernel) (pa_cons (pe_callTy c_int (by rfl) T.b_int (by decide +kernel) (pa_cons (pv 2) pa_nil)) pa_nil))) pa_nil)) pe_int))))
    (pss_one (ps_ret (pe_lst (pa_cons (pe_callTy (k_list (K := K) rfl) (by rfl) T.b_list (by decide +kernel) (pa_cons (pv 0) pa_nil)) (pa_cons pe_int (pa_cons pe_int (pa_cons (pv 1) pa_nil))))))))), ?_⟩
    walk_at "go"
    refine ⟨s0, rfl, ⟨_, hS⟩, for_list (xs := ns.map V.int) (fun i σ H' => ∃ c y, σ = [some (.ref s0), some (.int c), y] ∧ 0 ≤ c ∧ H' = H) ⟨7, none, rfl, by decide, rfl⟩ ?_ ?_ ?_⟩
    · rintro i σ H' _ ⟨c, y, rfl, _, rfl⟩
      exact hS
    · rintro i x σ H' hx ⟨c, y, rfl, c0, rfl⟩
      obtain ⟨z, _, rfl⟩ : ∃ z, ns[i]? = some z ∧ x = V.int z := by
        rw [List.getElem?_map] at hx
        cases e : ns[i]? with
        | none => rw [e] at hx; cases hx
        | some z => rw [e] at hx; exact ⟨z, rfl, (Option.some.inj hx).symm⟩
      have m31 : CMul c 31 := .inr ⟨by decide, by decide⟩
      have z0 := abs_nn z
      walk_at "go"
      exact ⟨_, _, rfl, (fmod_lt (by omega) (by decide)).1, rfl⟩
    · rintro σ H' ⟨c, y, rfl, c0, rfl⟩
      walk_at "go"
      refine l_listL hS fun l nl => ?_
      walk_at "go"
      refine ⟨(by show 4 ≤ sizeLine; decide), fun p np => ?_⟩
      show Q _ _
      have nlp : l ≠ p := fun e => by
        rw [← e, upd_same] at np
        cases np
      have np' : H' p = none := by rwa [upd_ne nlp.symm] at np
      refine q p l _ ((new_same nl).trans (new_same np)) ⟨ns, 0, 0, c, nlp, by decide, by decide, c0, by rw [upd_ne nlp]; exact upd_same, upd_same⟩ np' nl
end
end K28
namespace K28
open PySem PySem.Spec PyProof.Rows L2 Tq
section
variable {P : Program} {w : World} {K : PySem.W.Frag} {mg : Str → Option Value} {base : Heap}
/-- what a draw gives: a number below the bound, the tape as a tape -/
def spDraw (K : PySem.W.Frag) : Sp := fun vs H Q _ => ∃ (t a : Addr) (m : Int), vs = [.ref t, .int m] ∧ Tape H t a ∧ m < 1000000000000 ∧
  ∀ (n : Int) (H' : Hp), 0 ≤ n → n < max m 1 → Tape H' t a → But t H H' → Q (.int n) H'

theorem ok_law_draw (D : Ds K mg) (T : Txt mg) : FnOk P w K mg base CX0 1 D.law_draw.f D.law_draw.fd ["tape", "many"] (spDraw K) := by
  have sc := sc_law_draw
  refine D.law_draw.F.ok sc (fun vs H Q E h => ?_) (fun cdv A outer s H vs Q E hr h => ?_)
  · obtain ⟨t, a, m, rfl, _⟩ := h
    rfl
  · obtain ⟨t, a, m, rfl, hT, hm, q⟩ := h
    refine ⟨_, (pss_cons (ps_if (pt_cmpR op_eq (pe_ix (k_ixL (K := K) rfl) (pv 0) pe_int (fun _ _ => rfl)) pe_int (nomark _)) (pss_cons (ps_set (i := 2) sc.nd rfl (Or.inl rfl) (pe_ix (k_ixL (K := K) rfl) (pv 0) pe_int (fun _ _ => rfl)))
    (pss_cons (ps_set (i := 3) sc.nd rfl (Or.inl rfl) pe_int)
    (pss_cons (ps_if (pt_cmpR o_lt (pv 2) (pe_callB (k_len (K := K) rfl) (by rfl) T.b_len PySem.boot_len (pa_cons (pe_ix (k_ixL (K := K) rfl) (pv 0) pe_int (fun _ _ => rfl)) pa_nil)) (nomark _)) (pss_one (ps_set (i := 3) sc.nd rfl (Or.inl rfl) (pe_callB c_abs (by rfl) T.b_abs (by decide +kernel) (pa_cons (pe_callTy c_int (by rfl) T.b_int (by decide +kernel) (pa_cons (pe_ix (k_ixL (K := K) rfl) (pe_ix (k_ixL (K := K) rfl) (pv 0) pe_int (fun _ _ => rfl)) (pv 2) (fun _ _ => rfl)) pa_nil)) pa_nil)))) (pss_cons (ps_asg (pe_op o_mod (pe_callTy c_int (by rfl) T.b_int (by decide +kernel) (pa_cons (pe_op o_add (pe_op o_add (pe_op o_mul (pe_ix (k_ixL (K := K) rfl) (pv 0) pe_int (fun _ _ => rfl)) pe_int) (pv 2)) pe_int) pa_nil)) pe_int) (pg_sub (pv 0) pe_int set_list))
    (pss_one (ps_set (i := 3) sc.nd rfl (Or.inl rfl) (pe_ix (k_ixL (K := K) rfl) (pv 0) pe_int (fun _ _ => rfl))))))
    (pss_cons (ps_asg (pe_op o_add (pv 2) pe_int) (pg_sub (pv 0) pe_int set_list))
    (pss_cons (ps_if (pt_cmpR o_lt (pv 3) (pe_op o_pow pe_int pe_int) (nomark _)) (pss_cons (ps_set (i := 3) sc.nd rfl (Or.inl rfl) (pe_op o_mod (pe_callTy c_int (by rfl) T.b_int (by decide +kernel) (pa_cons (pe_op o_add (pe_op o_add (pe_op o_mul (pv 3) pe_int) (pe_op o_mul (pv 2) pe_int)) pe_int) pa_nil)) pe_int))
    (pss_cons (ps_set (i := 3) sc.nd rfl (Or.inl rfl) (pe_op o_mod (pe_callTy c_int (by rfl) T.b_int (by decide +kernel) (pa_cons (pe_op o_mul (pv 3) pe_int) pa_nil)) pe_int))
    (pss_one (ps_ret (pe_op o_mod (pe_callTy c_int (by rfl) T.b_int (by decide +kernel) (pa_cons (pv 3) pa_nil)) (pe_callB (c_max rfl) (by rfl) T.b_max (by decide +kernel) (pa_cons (pv 1) (pa_cons pe_int pa_nil)))))))) pss_nil)
    (pss_one (ps_asg (pv 3) (pg_sub (pv 0) pe_int set_list)))))))) pss_nil)
    (pss_cons (ps_set (i := 3) sc.nd rfl (Or.inl rfl) (pe_ix (k_ixL (K := K) rfl) (pv 0) pe_int (fun _ _ => rfl)))
    (pss_cons (ps_asg (pe_op o_div (pv 3) (pe_callB (c_max rfl) (by rfl) T.b_max (by decide +kernel) (pa_cons (pv 1) (pa_cons pe_int pa_nil)))) (pg_sub (pv 0) pe_int set_list))
    (pss_one (ps_ret (pe_op o_mod (pe_callTy c_int (by rfl) T.b_int (by decide +kernel) (pa_cons (pv 3) pa_nil)) (pe_callB (c_max rfl) (by rfl) T.b_max (by decide +kernel) (pa_cons (pv 1) (pa_cons pe_int pa_nil))))))))), ?_⟩
    obtain ⟨ns, p, c, d, nat, p0, c0, d0, ha, ht⟩ := hT
    have k1 : (0 : Int) < (if 1 > m then 1 else m) := by split <;> omega
    have k2 : (1 : Int) < (if 2 > m then 2 else m) ∧ (if 2 > m then 2 else m) < 1073741824000 := by split <;> omega
    have e1 : (if 1 > m then 1 else m) = max m 1 := max_eq m 1
    have fin : ∀ (p' c' d' z : Int), 0 ≤ p' → 0 ≤ c' → 0 ≤ d' → 0 ≤ z → Q (V.int (z.fmod (if 1 > m then 1 else m))) (upd H t (.lst [.ref a, .int p', .int c', .int d'])) := by
      intro p' c' d' z a1 a2 a3 a4
      have f := fmod_lt a4 k1
      refine q _ _ f.1 (by rw [← e1]; exact f.2) ⟨ns, p', c', d', nat, a1, a2, a3, by rw [upd_ne nat]; exact ha, upd_same⟩ (But.upd (But.refl t H))
    have m48 : ∀ z : Int, CMul z 48271 := fun z => .inr ⟨by decide, by decide⟩
    walk_at "go"
    refine l_if (fun c1 => ?_) (fun c1 => ?_)
    · subst c1
      walk_at "go"
      refine l_if (fun c2 => ?_) (fun c2 => ?_)
      · rw [List.length_map] at c2
        obtain ⟨z, hz, _⟩ := atI_map (f := V.int) p0 c2
        have z0 := abs_nn z
        walk_at "go"
        refine l_if (fun c3 => ?_) (fun c3 => ?_)
        · walk_at "go"
          show Q _ _
          exact fin (p + 1) 0 d _ (by omega) (by omega) d0 (fmod_lt (Int.mul_nonneg (fmod_lt (by omega) (by decide)).1 (by decide)) (by decide)).1
        · walk_at "go"
          show Q _ _
          have z1 := fdiv_nn z0 (show (0 : Int) < (if 2 > m then 2 else m) by omega)
          rw [upd_upd, upd_upd]
          exact fin (p + 1) _ d _ (by omega) z1 d0 z0
      · walk_at "go"
        have d1 : 0 ≤ (d * 48271 + p + 1).fmod 2147483647 := (fmod_lt (by omega) (by decide)).1
        refine l_if (fun c3 => ?_) (fun c3 => ?_)
        · walk_at "go"
          show Q _ _
          rw [upd_upd]
          exact fin (p + 1) 0 _ _ (by omega) (by omega) d1 (fmod_lt (Int.mul_nonneg (fmod_lt (by omega) (by decide)).1 (by decide)) (by decide)).1
        · walk_at "go"
          show Q _ _
          have z1 := fdiv_nn d1 (show (0 : Int) < (if 2 > m then 2 else m) by omega)
          rw [upd_upd, upd_upd, upd_upd]
          exact fin (p + 1) _ _ _ (by omega) z1 d1 d1
    · walk_at "go"
      show Q _ _
      exact fin p _ d c p0 (fdiv_nn c0 (by omega)) d0 c0
end
end K28
namespace K28
open PySem PySem.Spec PyProof.Rows L2 Tq
section
variable {P : Program} {w : World} {K : PySem.W.Frag} {mg : Str → Option Value} {base : Heap}
def spLTrim (K : PySem.W.Frag) : Sp := fun vs H Q _ => ∃ (p : Addr) (xs : List Int), vs = [.ref p] ∧ H p = some (.lst (xs.map V.int)) ∧ xs.length ≤ 1000 ∧ ∀ (d : Addr) (H' : Hp), Same H H' → H d = none → H' d = some (.tup ((trim xs).map V.int)) → Q (.ref d) H'

theorem ok_law_trimmed (D : Ds K mg) (T : Txt mg) : FnOk P w K mg base CX0 1 D.law_trimmed.f D.law_trimmed.fd ["numbers"] (spLTrim K) := by
  have sc := sc_law_trimmed
  refine D.law_trimmed.F.ok sc (fun vs H Q E h => ?_) (fun cdv A outer s H vs Q E hr h => ?_)
  · obtain ⟨p, xs, rfl, _⟩ := h
    rfl
  · obtain ⟨p, xs, rfl, hS, xl, q⟩ := h
    refine ⟨_, (pss_cons (ps_set (i := 1) sc.nd rfl (Or.inl rfl) pe_int)
    (pss_cons (ps_for PassesOwn.never rfl (pi_range1 (by rfl) T.b_range (pa_cons (pe_callB (k_len (K := K) rfl) (by rfl) T.b_len PySem.boot_len (pa_cons (pv 0) pa_nil)) pa_nil)) (pg_name (i := 2) sc.nd rfl (Or.inl rfl)) (pss_one (ps_if (pt_cmpR op_ne (pe_ix (k_ixL (K := K) rfl) (pv 0) (pv 2) (fun _ _ => rfl)) pe_int (nomark _)) (pss_one (ps_set (i := 1) sc.nd rfl (Or.inl rfl) (pe_op o_add (pv 2) pe_int))) pss_nil)))
    (pss_one (ps_ret (pe_callTy (k_tuple (K := K) rfl) (by rfl) T.b_tuple (by decide +kernel) (pa_cons (pe_slice (k_slL (K := K) rfl) (pv 0) po_none (po_some (pv 1))) pa_nil)))))), ?_⟩
    walk_at "go"
    rw [List.length_map]
    refine ⟨_, rfl, by omega, by omega, ?_⟩
    rw [Int.toNat_natCast]
    refine for_range (fun i σ H' => ∃ (k : Nat) (y : Option V), σ = [some (.ref p), some (.int k), y] ∧ k ≤ i ∧ (∀ z ∈ (xs.take i).drop k, z = 0) ∧ (∀ j, k = j + 1 → xs[j]? ≠ some 0) ∧ H' = H) ⟨0, none, rfl, Nat.le_refl _, by simp, fun j e => by omega, rfl⟩ ?_ ?_
    · rintro i σ H' hi ⟨k, y, rfl, ki, hz, hn, rfl⟩
      obtain ⟨e1, _, e3⟩ := ints_at (xs := xs) (k := 0 + (i : Int)) (by omega) (by omega)
      generalize xs.getD (0 + (i : Int)).toNat 0 = z at e1 e3
      rw [show (0 + (i : Int)).toNat = i by omega] at e3
      have e4 : xs.take (i + 1) = xs.take i ++ [z] := by rw [List.take_succ, e3]; rfl
      walk_at "go"
      refine l_ifN (fun c1 => ?_) (fun c1 => ?_)
      · walk_at "go"
        refine ⟨i + 1, _, by rw [show (0 + (i : Int) + 1) = ((i + 1 : Nat) : Int) by omega]; rfl, Nat.le_refl _, ?_, fun j e => ?_, rfl⟩
        · rw [List.drop_of_length_le (by rw [List.length_take]; omega)]; simp
        · have : j = i := by omega
          subst this
          rw [e3]
          exact fun h => c1 (Option.some.inj h)
      · walk_at "go"
        refine ⟨k, _, rfl, by omega, ?_, hn, rfl⟩
        rw [e4, List.drop_append_of_le_length (by rw [List.length_take]; omega)]
        intro y hy
        rcases List.mem_append.mp hy with h | h
        · exact hz y h
        · rw [List.mem_singleton.mp h]; exact c1
    · rintro σ H' ⟨k, y, rfl, ki, hz, hn, rfl⟩
      walk_at "go"
      refine l_part ?_
      walk_at "go"
      refine ⟨_, rfl, ?_⟩
      rw [List.take_length] at hz
      refine l_tupTake hS (by omega) (by omega) fun r H1 S1 n1 h1 => ?_
      rw [Int.toNat_natCast, ← trim_of hz ki hn] at h1
      exact q r H1 S1 n1 h1
end
end K28
namespace K28
open PySem PySem.Spec PyProof.Rows L2 Tq
section
variable {P : Program} {w : World} {K : PySem.W.Frag} {mg : Str → Option Value} {base : Heap}
def spLAdd (K : PySem.W.Frag) : Sp := fun vs H Q _ => ∃ (p r : Addr) (xs ys : List Int), vs = [.ref p, .ref r] ∧ SqT K H p (xs.map V.int) ∧ SqT K H r (ys.map V.int) ∧ xs.length ≤ 400 ∧ ys.length ≤ 400 ∧ ∀ (d : Addr) (H' : Hp), Same H H' → H d = none → H' d = some (.tup ((addL xs ys).map V.int)) → Q (.ref d) H'

theorem ok_law_plus (D : Ds K mg) (T : Txt mg) : FnOk P w K mg base CX0 2 D.law_plus.f D.law_plus.fd ["first", "second"] (spLAdd K) := by
  have sc := sc_law_plus
  refine D.law_plus.F.ok sc (fun vs H Q E h => ?_) (fun cdv A outer s H vs Q E hr h => ?_)
  · obtain ⟨p, r, xs, ys, rfl, _⟩ := h
    rfl
  · obtain ⟨p, r, xs, ys, rfl, h1, h2, l1, l2, q⟩ := h
    refine ⟨_, (pss_cons (ps_set (i := 2) sc.nd rfl (Or.inl rfl) (pe_lst pa_nil))
    (pss_cons (ps_for PassesOwn.never rfl (pi_range1 (by rfl) T.b_range (pa_cons (pe_callB (c_max rfl) (by rfl) T.b_max (by decide +kernel) (pa_cons (pe_callB (k_len (K := K) rfl) (by rfl) T.b_len PySem.boot_len (pa_cons (pv 0) pa_nil)) (pa_cons (pe_callB (k_len (K := K) rfl) (by rfl) T.b_len PySem.boot_len (pa_cons (pv 1) pa_nil)) pa_nil))) pa_nil)) (pg_name (i := 3) sc.nd rfl (Or.inl rfl)) (pss_cons (ps_set (i := 4) sc.nd rfl (Or.inl rfl) pe_int)
    (pss_cons (ps_if (pt_cmpR o_lt (pv 3) (pe_callB (k_len (K := K) rfl) (by rfl) T.b_len PySem.boot_len (pa_cons (pv 0) pa_nil)) (nomark _)) (pss_one (ps_set (i := 4) sc.nd rfl (Or.inl rfl) (pe_ix (k_ixT (K := K) rfl) (pv 0) (pv 3) (fun _ _ => rfl)))) pss_nil)
    (pss_cons (ps_if (pt_cmpR o_lt (pv 3) (pe_callB (k_len (K := K) rfl) (by rfl) T.b_len PySem.boot_len (pa_cons (pv 1) pa_nil)) (nomark _)) (pss_one (ps_set (i := 4) sc.nd rfl (Or.inl rfl) (pe_op o_add (pv 4) (pe_ix (k_ixT (K := K) rfl) (pv 1) (pv 3) (fun _ _ => rfl))))) pss_nil)
    (pss_one (ps_expr (pe_bm PySem.F.plainAttrs_list PySem.F.slot_list_append PySem.F.type_list_append mt_append (pv 2) (pa_cons (pv 4) pa_nil))))))))
    (pss_one (ps_ret (pe_call (ok_law_trimmed D T) hr (by rfl) D.law_trimmed.g D.law_trimmed.F.kp D.law_trimmed.b .nil pass0 (pa_cons (pv 2) pa_nil)))))), ?_⟩
    walk_at "go"
    refine ⟨Nat.zero_le _, fun c nc => ?_⟩
    have S1 := new_same (o := .lst []) nc
    have g1 := S1.seqT h1
    have g2 := S1.seqT h2
    walk_at "go"
    rw [List.length_map, List.length_map, max_eq]
    refine ⟨_, rfl, by omega, by omega, ?_⟩
    rw [show (max (xs.length : Int) (ys.length : Int)).toNat = max xs.length ys.length by omega]
    refine for_range (fun i σ H' => ∃ y1 y2 : Option V, σ = [some (.ref p), some (.ref r), some (.ref c), y1, y2] ∧ Same H H' ∧ H' c = some (.lst ((sumL xs ys i).map V.int))) ⟨none, none, rfl, S1, upd_same⟩ ?_ ?_
    · rintro i σ H' hi ⟨y1, y2, rfl, sm, hc⟩
      have z1 : (0 : Int) + (i : Int) = (i : Int) := by omega
      rw [z1]
      refine l_gname ?_
      refine l_seq ?_
      refine l_asg ?_
      refine l_c ?_
      refine l_gname ?_
      have g1 := sm.seqT h1
      have g2 := sm.seqT h2
      with_reducible refine' l_cut (fun σ' H2 => σ' = [some (.ref p), some (.ref r), some (.ref c), some (.int i), some (.int (xs.getD i 0))] ∧ H2 = H') (fun N hN => ?_) ?_
      · walk_at "go"
        rw [List.length_map]
        refine l_if (fun c1 => ?_) (fun c1 => ?_)
        · obtain ⟨e1, _, _⟩ := ints_nat (xs := xs) (k := i) (by omega)
          walk_at "go"
          exact hN _ _ ⟨rfl, rfl⟩
        · walk_at "go"
          exact hN _ _ ⟨by rw [getD_none (xs := xs) (by omega)]; rfl, rfl⟩
      rintro σ' H2 ⟨rfl, rfl⟩
      with_reducible refine' l_cut (fun σ' H3 => σ' = [some (.ref p), some (.ref r), some (.ref c), some (.int i), some (.int (xs.getD i 0 + ys.getD i 0))] ∧ H3 = H2) (fun N hN => ?_) ?_
      · walk_at "go"
        rw [List.length_map]
        refine l_if (fun c1 => ?_) (fun c1 => ?_)
        · obtain ⟨e1, _, _⟩ := ints_nat (xs := ys) (k := i) (by omega)
          walk_at "go"
          exact hN _ _ ⟨rfl, rfl⟩
        · walk_at "go"
          exact hN _ _ ⟨by rw [getD_none (xs := ys) (by omega), Int.add_zero], rfl⟩
      rintro σ' H3 ⟨rfl, rfl⟩
      have room : ((sumL xs ys i).map V.int).length < sizeLine := fits_lt (by rw [List.length_map, sumL_len]; omega)
      walk_at "go"
      refine ⟨_, _, rfl, ?_, by rw [upd_same, sumL_succ, List.map_append]; rfl⟩
      intro b o hb
      rw [upd_ne (ne_of_none hb nc)]
      exact sm _ _ hb
    · rintro σ H' ⟨y1, y2, rfl, sm, hc⟩
      walk_at "go"
      refine ⟨c, _, rfl, hc, by rw [sumL_len]; omega, fun d H2 S2 n2 h2 => ?_⟩
      walk_at "go"
      show Q _ _
      exact q d H2 (sm.trans S2) (sm.free n2) h2
end
end K28
namespace K28
open PySem PySem.Spec PyProof.Rows L2 Tq
section
variable {P : Program} {w : World} {K : PySem.W.Frag} {mg : Str → Option Value} {base : Heap}
def spLMul (K : PySem.W.Frag) : Sp := fun vs H Q _ => ∃ (p r : Addr) (xs ys : List Int), vs = [.ref p, .ref r] ∧ SqT K H p (xs.map V.int) ∧ SqT K H r (ys.map V.int) ∧ xs.length ≤ 400 ∧ ys.length ≤ 400 ∧ (∀ z ∈ ys, -(2 ^ 64) < z ∧ z < 2 ^ 64) ∧ ∀ (d : Addr) (H' : Hp), Same H H' → H d = none → H' d = some (.tup ((mulL xs ys).map V.int)) → Q (.ref d) H'

theorem ok_law_times (D : Ds K mg) (T : Txt mg) : FnOk P w K mg base CX0 2 D.law_times.f D.law_times.fd ["first", "second"] (spLMul K) := by
  have sc := sc_law_times
  refine D.law_times.F.ok sc (fun vs H Q E h => ?_) (fun cdv A outer s H vs Q E hr h => ?_)
  · obtain ⟨p, r, xs, ys, rfl, _⟩ := h
    rfl
  · obtain ⟨p, r, xs, ys, rfl, h1, h2, l1, l2, yb, q⟩ := h
    refine ⟨_, (pss_cons (ps_setLc (i := 2) (own := [("k", 3)]) rfl sc.nd rfl rfl (sw_true rfl rfl rfl (by decide +kernel)) (pi_range1 (by rfl) T.b_range (pa_cons (pe_op o_add (pe_callB (k_len (K := K) rfl) (by rfl) T.b_len PySem.boot_len (pa_cons (pv 0) pa_nil)) (pe_callB (k_len (K := K) rfl) (by rfl) T.b_len PySem.boot_len (pa_cons (pv 1) pa_nil))) pa_nil)) (blkOk_by (N := ["first", "second", "numbers", "k", "j"]) (sc := defScope s_law_times) (by decide +kernel)) (fun _ _ _ _ _ => (pg_name (i := 3) sc.nd rfl (Or.inl rfl))) (fun _ _ _ _ _ => pts_nil) (fun _ _ _ _ _ => pe_int))
    (pss_cons (ps_for PassesOwn.never rfl (pi_range1 (by rfl) T.b_range (pa_cons (pe_callB (k_len (K := K) rfl) (by rfl) T.b_len PySem.boot_len (pa_cons (pv 0) pa_nil)) pa_nil)) (pg_name (i := 3) sc.nd rfl (Or.inl rfl)) (pss_one (ps_for PassesOwn.never rfl (pi_range1 (by rfl) T.b_range (pa_cons (pe_callB (k_len (K := K) rfl) (by rfl) T.b_len PySem.boot_len (pa_cons (pv 1) pa_nil)) pa_nil)) (pg_name (i := 4) sc.nd rfl (Or.inl rfl)) (pss_one (ps_asg (pe_op o_add (pe_ix (k_ixL (K := K) rfl) (pv 2) (pe_op o_add (pv 3) (pv 4)) (fun _ _ => rfl)) (pe_op o_mul (pe_ix (k_ixT (K := K) rfl) (pv 0) (pv 3) (fun _ _ => rfl)) (pe_ix (k_ixT (K := K) rfl) (pv 1) (pv 4) (fun _ _ => rfl)))) (pg_sub (pv 2) (pe_op o_add (pv 3) (pv 4)) set_list))))))
    (pss_one (ps_ret (pe_call (ok_law_trimmed D T) hr (by rfl) D.law_trimmed.g D.law_trimmed.F.kp D.law_trimmed.b .nil pass0 (pa_cons (pv 2) pa_nil)))))), ?_⟩
    walk_at "go"
    rw [List.length_map, List.length_map]
    refine ⟨_, rfl, by omega, by omega, fun c nc => ?_⟩
    rw [show ((xs.length : Int) + (ys.length : Int)).toNat = xs.length + ys.length by omega]
    refine lc_range (fun i H' => Same H H' ∧ H' c = some (.lst ((List.replicate i (0 : Int)).map V.int))) ⟨new_same nc, by rw [upd_same]; rfl⟩ ?_ ?_
    · rintro i H' hi ⟨sm, hc⟩
      walk_at "go"
      refine ⟨rfl, ?_⟩
      walk_at "go"
      refine ⟨_, hc, fits_lt (by rw [List.length_map, List.length_replicate]; omega), ?_, ?_⟩
      · intro b o hb
        rw [upd_ne (ne_of_none hb nc)]
        exact sm _ _ hb
      · rw [upd_same, List.replicate_succ', List.map_append]; rfl
    rintro H1 ⟨S1, hc⟩
    walk_at "go"
    refine l_lenT (S1.seqT h1) ?_
    walk_at "go"
    rw [List.length_map]
    refine ⟨_, rfl, by omega, by omega, ?_⟩
    rw [Int.toNat_natCast]
    refine for_range (fun i σ H' => ∃ y1 y2 : Option V, σ = [some (.ref p), some (.ref r), some (.ref c), y1, y2] ∧ Same H H' ∧ H' c = some (.lst ((out xs ys i).map V.int))) ⟨none, none, rfl, S1, hc⟩ ?_ ?_
    · rintro i σ H' il ⟨y1, y2, rfl, sm, hc⟩
      walk_at "go"
      refine l_lenT (sm.seqT h2) ?_
      walk_at "go"
      rw [List.length_map]
      refine ⟨_, rfl, by omega, by omega, ?_⟩
      rw [Int.toNat_natCast]
      refine for_range (fun j σ H' => ∃ y2 : Option V, σ = [some (.ref p), some (.ref r), some (.ref c), some (.int (0 + (i : Int))), y2] ∧ Same H H' ∧ H' c = some (.lst ((inn (out xs ys i) i (xs.getD i 0) ys j).map V.int))) ⟨y2, rfl, sm, hc⟩ ?_ ?_
      · rintro j σ H2 jl ⟨y2, rfl, sm2, hc2⟩
        have ll : i + j < (inn (out xs ys i) i (xs.getD i 0) ys j).length := by rw [inn_len, out_len]; omega
        obtain ⟨e1, _, _⟩ := ints_nat ll
        obtain ⟨e2, _, e4⟩ := ints_nat il
        obtain ⟨e3, _, e5⟩ := ints_nat jl
        have e6 := ixN_nat ll
        have c : CMul (xs.getD i 0) (ys.getD j 0) := .inr (yb _ (List.mem_of_getElem? e5))
        have z1 : (0 : Int) + (i : Int) = (i : Int) := by omega
        have z2 : (0 : Int) + (j : Int) = (j : Int) := by omega
        have z3 : (i : Int) + (j : Int) = ((i + j : Nat) : Int) := by omega
        rw [z1, z2]
        have e7 : ixN ((inn (out xs ys i) i (xs.getD i 0) ys j).map V.int).length ((i : Int) + (j : Int)) = some (i + j) := by
          rw [List.length_map, z3]; exact e6
        have g1 := sm2.seqT h1
        have g2 := sm2.seqT h2
        walk_at "go"
        refine ⟨_, rfl, ?_, ?_⟩
        · intro b' o hb
          rw [upd_ne (ne_of_none hb nc)]
          exact sm2 _ _ hb
        · rw [upd_same, inn, List.map_set]
      · rintro σ H2 ⟨y2, rfl, sm2, hc2⟩
        show ∃ y1 y2 : Option V, _
        exact ⟨_, _, rfl, sm2, by rw [hc2, out]⟩
    · rintro σ H' ⟨y1, y2, rfl, sm, hc⟩
      walk_at "go"
      refine ⟨c, _, rfl, hc, by rw [out_len]; omega, fun d H2 S2 n2 h2 => ?_⟩
      walk_at "go"
      show Q _ _
      exact q d H2 (sm.trans S2) (sm.free n2) h2
end
end K28
namespace K28
open PySem PySem.Spec PyProof.Rows L2 Tq
section
variable {P : Program} {w : World} {K : PySem.W.Frag} {mg : Str → Option Value} {base : Heap}
def spLVal (K : PySem.W.Frag) : Sp := fun vs H Q _ => ∃ (p : Addr) (xs : List Int) (n : Int), vs = [.ref p, .int n] ∧ SqT K H p (xs.map V.int) ∧ xs.length ≤ 1000 ∧ -(2 ^ 64) < n ∧ n < 2 ^ 64 ∧ Q (.int (valL xs n)) H

theorem ok_law_value (D : Ds K mg) (T : Txt mg) : FnOk P w K mg base CX0 1 D.law_value.f D.law_value.fd ["polynomial", "n"] (spLVal K) := by
  have sc := sc_law_value
  refine D.law_value.F.ok sc (fun vs H Q E h => ?_) (fun cdv A outer s H vs Q E hr h => ?_)
  · obtain ⟨p, xs, n, rfl, _⟩ := h
    rfl
  · obtain ⟨p, xs, n, rfl, hS, xl, n0, n1, q⟩ := h
    refine ⟨_, (pss_cons (ps_set (i := 2) sc.nd rfl (Or.inl rfl) pe_int)
    (pss_cons (ps_for PassesOwn.never rfl (pi_range1 (by rfl) T.b_range (pa_cons (pe_callB (k_len (K := K) rfl) (by rfl) T.b_len PySem.boot_len (pa_cons (pv 0) pa_nil)) pa_nil)) (pg_name (i := 3) sc.nd rfl (Or.inl rfl)) (pss_one (ps_set (i := 2) sc.nd rfl (Or.inl rfl) (pe_op o_add (pe_op o_mul (pv 2) (pv 1)) (pe_ix (k_ixT (K := K) rfl) (pv 0) (pe_op o_sub (pe_op o_sub (pe_callB (k_len (K := K) rfl) (by rfl) T.b_len PySem.boot_len (pa_cons (pv 0) pa_nil)) pe_int) (pv 3)) (fun _ _ => rfl))))))
    (pss_one (ps_ret (pv 2))))), ?_⟩
    walk_at "go"
    rw [List.length_map]
    refine ⟨_, rfl, by omega, by omega, ?_⟩
    rw [Int.toNat_natCast]
    have c : ∀ z : Int, CMul z n := fun z => .inr ⟨n0, n1⟩
    refine for_range (fun i σ H' => ∃ y : Option V, σ = [some (.ref p), some (.int n), some (.int (valL (xs.drop (xs.length - i)) n)), y] ∧ H' = H) ⟨none, by rw [Nat.sub_zero, List.drop_length]; rfl, rfl⟩ ?_ ?_
    · rintro i σ H' il ⟨y, rfl, rfl⟩
      have cc := c (valL (xs.drop (xs.length - i)) n)
      obtain ⟨e1, _, e3⟩ := ints_at (xs := xs) (k := (xs.length : Int) - 1 - (0 + (i : Int))) (by omega) (by omega)
      generalize xs.getD ((xs.length : Int) - 1 - (0 + (i : Int))).toNat 0 = z at e1 e3
      have e2 : atI (xs.map V.int) (((xs.map V.int).length : Int) - 1 - (0 + (i : Int))) = some (V.int z) := by rw [List.length_map]; exact e1
      rw [show ((xs.length : Int) - 1 - (0 + (i : Int))).toNat = xs.length - (i + 1) by omega] at e3
      walk_at "go"
      refine ⟨some (.int (0 + (i : Int))), ?_, rfl⟩
      rw [drop_get e3, show xs.length - (i + 1) + 1 = xs.length - i by omega]
      rfl
    · rintro σ H' ⟨y, rfl, rfl⟩
      walk_at "go"
      show Q _ _
      rw [Nat.sub_self]
      exact q
end
end K28
namespace K28
open PySem PySem.Spec PyProof.Rows L2 Tq
section
variable {P : Program} {w : World} {K : PySem.W.Frag} {mg : Str → Option Value} {base : Heap}
def spLFal (K : PySem.W.Frag) : Sp := fun vs H Q _ => ∃ (s m : Int), vs = [.int s, .int m] ∧ 0 ≤ s ∧ s ≤ 1000 ∧ 0 ≤ m ∧ m ≤ 100 ∧ ∀ (d : Addr) (H' : Hp), Same H H' → H d = none → H' d = some (.tup ((falL s m.toNat).map V.int)) → Q (.ref d) H'

theorem ok_law_falling (D : Ds K mg) (T : Txt mg) : FnOk P w K mg base CX0 3 D.law_falling.f D.law_falling.fd ["start", "many"] (spLFal K) := by
  have sc := sc_law_falling
  refine D.law_falling.F.ok sc (fun vs H Q E h => ?_) (fun cdv A outer s H vs Q E hr h => ?_)
  · obtain ⟨s, m, rfl, _⟩ := h
    rfl
  · obtain ⟨s, m, rfl, s0, s1, m0, m1, q⟩ := h
    refine ⟨_, (pss_cons (ps_set (i := 2) sc.nd rfl (Or.inl rfl) (pe_tup (pa_cons pe_int pa_nil)))
    (pss_cons (ps_for PassesOwn.never rfl (pi_range1 (by rfl) T.b_range (pa_cons (pv 1) pa_nil)) (pg_name (i := 3) sc.nd rfl (Or.inl rfl)) (pss_one (ps_set (i := 2) sc.nd rfl (Or.inl rfl) (pe_call (ok_law_times D T) hr (by rfl) D.law_times.g D.law_times.F.kp D.law_times.b .nil pass0 (pa_cons (pv 2) (pa_cons (pe_tup (pa_cons (pe_op o_sub (pe_op o_sub pe_int (pv 0)) (pv 3)) (pa_cons pe_int pa_nil))) pa_nil))))))
    (pss_one (ps_ret (pv 2))))), ?_⟩
    walk_at "go"
    refine ⟨by show 1 ≤ sizeLine; decide, fun t nt => ?_⟩
    walk_at "go"
    refine ⟨m, rfl, by omega, by omega, ?_⟩
    refine for_range (fun i σ H' => ∃ (d : Addr) (y : Option V), σ = [some (.int s), some (.int m), some (.ref d), y] ∧ Same H H' ∧ H d = none ∧ H' d = some (.tup ((falL s i).map V.int))) ⟨t, none, rfl, new_same nt, nt, upd_same⟩ ?_ ?_
    · rintro i σ H' hi ⟨d, y, rfl, sm, nd, hd⟩
      walk_at "go"
      refine ⟨by show 2 ≤ sizeLine; decide, fun t1 nt1 => ?_⟩
      walk_at "go"
      have s2 := new_same (o := .tup [.int (0 - s - (0 + (i : Int))), .int 1]) nt1
      have fl := fal_len s i
      refine ⟨d, t1, _, [0 - s - (0 + (i : Int)), 1], rfl, sqT (s2 _ _ hd), sqT upd_same, by omega, by show 2 ≤ 400; decide, fun z hz => ?_, fun e H3 S3 n3 h3 => ?_⟩
      · simp at hz
        omega
      · walk_at "go"
        refine ⟨e, _, rfl, (sm.trans s2).trans S3, (sm.trans s2).free n3, by rw [h3, falL, show 0 - s - (0 + (i : Int)) = -s - (i : Int) by omega]⟩
    · rintro σ H' ⟨d, y, rfl, sm, nd, hd⟩
      walk_at "go"
      show Q _ _
      exact q d H' sm nd hd
end
end K28
namespace K28
open PySem PySem.Spec PyProof.Rows L2 Tq
section
variable {P : Program} {w : World} {K : PySem.W.Frag} {mg : Str → Option Value} {base : Heap}
def spPoly (K : PySem.W.Frag) : Sp := fun vs H Q _ => ∃ (t a : Addr), vs = [.ref t, .int 9] ∧ Tape H t a ∧ ∀ (xs : List Int) (d : Addr) (H' : Hp), H d = none → H' d = some (.tup (xs.map V.int)) → xs.length ≤ 40 → (∀ z ∈ xs, -(2 ^ 31) < z ∧ z < 2 ^ 31) → trim xs = xs → Tape H' t a → But t H H' → Q (.ref d) H'

theorem ok_law_polynomial (D : Ds K mg) (T : Txt mg) : FnOk P w K mg base CX0 3 D.law_polynomial.f D.law_polynomial.fd ["tape", "most"] (spPoly K) := by
  have sc := sc_law_polynomial
  refine D.law_polynomial.F.ok sc (fun vs H Q E h => ?_) (fun cdv A outer s H vs Q E hr h => ?_)
  · obtain ⟨t, a, rfl, _⟩ := h
    rfl
  · obtain ⟨t, a, rfl, hT, q⟩ := h
    refine ⟨_, (pss_cons (ps_set (i := 2) sc.nd rfl (Or.inl rfl) (pe_call (ok_law_draw D T) (hr.mono (by decide)) (by rfl) D.law_draw.g D.law_draw.F.kp D.law_draw.b .nil pass0 (pa_cons (pv 0) (pa_cons (pe_op o_add (pv 1) pe_int) pa_nil))))
    (pss_cons (ps_set (i := 3) sc.nd rfl (Or.inl rfl) (pe_call (ok_law_draw D T) (hr.mono (by decide)) (by rfl) D.law_draw.g D.law_draw.F.kp D.law_draw.b .nil pass0 (pa_cons (pv 0) (pa_cons pe_int pa_nil))))
    (pss_cons (ps_if (pt_cmpR o_lt (pv 3) pe_int (nomark _)) (pss_cons (ps_set (i := 4) sc.nd rfl (Or.inr rfl) (pe_ix (k_ixL (K := K) rfl) (pe_lst (pa_cons pe_int (pa_cons (pe_op o_pow pe_int pe_int) pa_nil))) (pv 3) (fun _ _ => rfl)))
    (pss_one (ps_ret (pe_call (ok_law_trimmed D T) (hr.mono (by decide)) (by rfl) D.law_trimmed.g D.law_trimmed.F.kp D.law_trimmed.b .nil pass0 (pa_cons (pe_lc (own := [("k", 5)]) rfl sc.nd (pi_range1 (by rfl) T.b_range (pa_cons (pv 2) pa_nil)) (blkOk_by (N := ["tape", "most", "many", "choice", "width", "k", "product"]) (sc := defScope s_law_polynomial) (by decide +kernel)) (fun _ _ _ _ _ => (pg_name (i := 5) sc.nd rfl (Or.inl rfl))) (fun _ _ _ _ _ => pts_nil) (fun _ _ _ _ _ => (pe_op o_sub (pe_call (ok_law_draw D T) (hr.mono (by decide)) (by rfl) D.law_draw.g D.law_draw.F.kp D.law_draw.b .nil pass0 (pa_cons (pv 0) (pa_cons (pe_op o_add (pe_op o_mul pe_int (pv 4)) pe_int) pa_nil))) (pv 4)))) pa_nil))))) pss_nil)
    (pss_cons (ps_set (i := 6) sc.nd rfl (Or.inl rfl) (pe_tup (pa_cons (pe_ix (k_ixL (K := K) rfl) (pe_lst (pa_cons pe_int (pa_cons (pe_op o_sub pe_int pe_int) pa_nil))) (pe_call (ok_law_draw D T) (hr.mono (by decide)) (by rfl) D.law_draw.g D.law_draw.F.kp D.law_draw.b .nil pass0 (pa_cons (pv 0) (pa_cons pe_int pa_nil))) (fun _ _ => rfl)) pa_nil)))
    (pss_cons (ps_set (i := 2) sc.nd rfl (Or.inl rfl) (pe_callB (c_max rfl) (by rfl) T.b_max (by decide +kernel) (pa_cons (pe_op o_sub (pv 2) pe_int) (pa_cons pe_int pa_nil))))
    (pss_cons (ps_set (i := 4) sc.nd rfl (Or.inr rfl) (pe_ix (k_ixL (K := K) rfl) (pe_lst (pa_cons pe_int (pa_cons pe_int (pa_cons pe_int (pa_cons pe_int (pa_cons pe_int (pa_cons pe_int (pa_cons pe_int (pa_cons pe_int (pa_cons pe_int pa_nil)))))))))) (pv 2) (fun _ _ => rfl)))
    (pss_cons (ps_if (pt_cmpR op_eq (pe_call (ok_law_draw D T) (hr.mono (by decide)) (by rfl) D.law_draw.g D.law_draw.F.kp D.law_draw.b .nil pass0 (pa_cons (pv 0) (pa_cons pe_int pa_nil))) pe_int (nomark _)) (pss_one (ps_set (i := 4) sc.nd rfl (Or.inr rfl) (pe_callB (c_min rfl) (by rfl) T.b_min (by decide +kernel) (pa_cons (pv 4) (pa_cons pe_int pa_nil))))) pss_nil)
    (pss_cons (ps_for PassesOwn.never rfl (pi_range1 (by rfl) T.b_range (pa_cons (pv 2) pa_nil)) (pg_name (i := 5) sc.nd rfl (Or.inl rfl)) (pss_one (ps_set (i := 6) sc.nd rfl (Or.inl rfl) (pe_call (ok_law_times D T) hr (by rfl) D.law_times.g D.law_times.F.kp D.law_times.b .nil pass0 (pa_cons (pv 6) (pa_cons (pe_tup (pa_cons (pe_op o_sub pe_int (pe_call (ok_law_draw D T) (hr.mono (by decide)) (by rfl) D.law_draw.g D.law_draw.F.kp D.law_draw.b .nil pass0 (pa_cons (pv 0) (pa_cons (pe_op o_add (pv 4) pe_int) pa_nil)))) (pa_cons pe_int pa_nil))) pa_nil))))))
    (pss_cons (ps_if (pt_cmpR op_eq (pv 3) pe_int (nomark _)) (pss_one (ps_set (i := 6) sc.nd rfl (Or.inl rfl) (pe_call (ok_law_plus D T) hr (by rfl) D.law_plus.g D.law_plus.F.kp D.law_plus.b .nil pass0 (pa_cons (pv 6) (pa_cons (pe_tup (pa_cons (pe_op o_sub (pe_call (ok_law_draw D T) (hr.mono (by decide)) (by rfl) D.law_draw.g D.law_draw.F.kp D.law_draw.b .nil pass0 (pa_cons (pv 0) (pa_cons pe_int pa_nil))) pe_int) pa_nil)) pa_nil))))) pss_nil)
    (pss_one (ps_ret (pv 6)))))))))))), ?_⟩
    have hT0 := hT
    walk_at "go"
    refine ⟨t, a, 10, rfl, hT, by decide, fun m H1 m0 m1 T1 B1 => ?_⟩
    walk_at "go"
    refine ⟨t, a, 4, rfl, T1, by decide, fun ch H2 c0 c1 T2 B2 => ?_⟩
    have B02 := B1.trans B2
    walk_at "go"
    refine l_if (fun d1 => ?_) (fun d1 => ?_)
    · walk_at "go"
      refine ⟨by show 2 ≤ sizeLine; decide, fun p np => ?_⟩
      walk_at "go"
      obtain ⟨z, hz, hz2⟩ := atI_map (f := V.int) (xs := [9, 1000000000]) c0 (by show ch < 2; omega)
      have zb : 0 ≤ z ∧ z ≤ 1000000000 := by
        have := List.mem_of_getElem? hz2
        simp at this
        omega
      have pt := T2.ne np
      have T3 := T2.put (u := .lst [.int 9, .int ((10 : Int) ^ (9 : Int).toNat)]) pt.1 pt.2
      have B3 := But.new (o := .lst [.int 9, .int ((10 : Int) ^ (9 : Int).toNat)]) B02 (B02.free np pt.1)
      refine l_ixL (sqL upd_same) hz ?_
      walk_at "go"
      refine ⟨m, rfl, by omega, by omega, fun c nc => ?_⟩
      have ct := T3.ne nc
      have nc0 := B3.free nc ct.1
      refine lc_range (fun i H' => ∃ zs : List Int, zs.length = i ∧ (∀ x ∈ zs, -(2 ^ 31) < x ∧ x < 2 ^ 31) ∧ H' c = some (.lst (zs.map V.int)) ∧ Tape H' t a ∧ But t H H') ⟨[], rfl, by simp, upd_same, T3.put ct.1 ct.2, But.new B3 nc0⟩ ?_ ?_
      · rintro i H4 hi ⟨zs, zl, zz, hc, T4, B4⟩
        walk_at "go"
        refine ⟨rfl, ?_⟩
        walk_at "go"
        refine ⟨t, a, _, rfl, T4, by omega, fun n H5 n0 n1 T5 B5 => ?_⟩
        have hc5 := B5 c _ ct.1 hc
        walk_at "go"
        refine ⟨_, hc5, fits_lt (by rw [List.length_map]; omega), zs ++ [n - z], by simp [zl], ?_, by rw [upd_same, List.map_append]; rfl, T5.put ct.1 ct.2, But.new (B4.trans B5) nc0⟩
        intro x hx
        rcases List.mem_append.mp hx with h | h
        · exact zz x h
        · rw [List.mem_singleton.mp h]; omega
      · rintro H4 ⟨zs, zl, zz, hc, T4, B4⟩
        walk_at "go"
        refine ⟨c, zs, rfl, hc, by omega, fun d H5 S5 n5 h5 => ?_⟩
        walk_at "go"
        show Q _ _
        exact q _ d H5 (B4.free n5 (T4.ne n5).1) h5 (by have := trim_len zs; omega) (fun x hx => zz x (trim_sub zs x hx)) (trim_trim zs) (T4.same S5) (B4.trans (Same.but S5))
    walk_at "go"
    refine ⟨by show 2 ≤ sizeLine; decide, fun p np => ?_⟩
    have pt := T2.ne np
    have B3 := But.new (o := .lst [.int 1, .int (0 - 1)]) B02 (B02.free np pt.1)
    walk_at "go"
    refine ⟨t, a, 2, rfl, T2.put pt.1 pt.2, by decide, fun s0 H4 s1 s2 T4 B4 => ?_⟩
    have hp4 := B4 p _ pt.1 upd_same
    obtain ⟨z0, hz, hz2⟩ := atI_map (f := V.int) (xs := [1, 0 - 1]) s1 (by show s0 < 2; omega)
    have z0b : z0.natAbs = 1 := by
      have := List.mem_of_getElem? hz2
      simp at this
      omega
    refine l_ixL (sqL hp4) hz ?_
    walk_at "go"
    refine ⟨by show 1 ≤ sizeLine; decide, fun d nd => ?_⟩
    have dt := T4.ne nd
    have B5 := (B3.trans B4)
    have nd0 := B5.free nd dt.1
    have B6 := But.new (o := .tup [.int z0]) B5 nd0
    have T6 := T4.put (u := .tup [.int z0]) dt.1 dt.2
    have hd6 : (L2.upd H4 d (.tup [.int z0])) d = some (.tup ([z0].map V.int)) := upd_same
    generalize L2.upd H4 d (.tup [.int z0]) = H6 at B6 T6 hd6 ⊢
    walk_at "go"
    refine ⟨by show 9 ≤ sizeLine; decide, fun p2 np2 => ?_⟩
    have p2t := T6.ne np2
    have kb : 0 ≤ (if 0 > m - 1 then 0 else m - 1) ∧ (if 0 > m - 1 then 0 else m - 1) ≤ 8 := by split <;> omega
    generalize (if 0 > m - 1 then 0 else m - 1) = k at kb ⊢
    have B7 := But.new (o := .lst (widths.map V.int)) B6 (B6.free np2 p2t.1)
    have T7 := T6.put (u := .lst (widths.map V.int)) p2t.1 p2t.2
    have hd7 : (L2.upd H6 p2 (.lst (widths.map V.int))) d = some (.tup ([z0].map V.int)) := by rw [upd_ne (ne_of_none hd6 np2)]; exact hd6
    walk_at "go"
    obtain ⟨wd, hw, hw2⟩ := atI_map (f := V.int) (xs := widths) kb.1 (by show k < 9; omega)
    obtain ⟨w0, w1, w2⟩ := widths_ok hw2
    refine l_ixL (sqL upd_same) hw ?_
    refine l_gname ?_
    with_reducible refine' l_cut (fun σ' H' => ∃ v : Int, σ' = [some (.ref t), some (.int 9), some (.int k), some (.int ch), some (.int v), none, some (.ref d)] ∧ 0 ≤ v ∧ v ≤ wd ∧ H' d = some (.tup ([z0].map V.int)) ∧ Tape H' t a ∧ But t H H') (fun N hN => ?_) ?_
    · walk_at "go"
      refine ⟨t, a, 3, rfl, T7, by decide, fun n H8 n0 n1 T8 B8 => ?_⟩
      have hd8 := B8 d _ dt.1 hd7
      walk_at "go"
      refine l_if (fun e1 => ?_) (fun e1 => ?_)
      · walk_at "go"
        exact hN _ _ ⟨_, rfl, by split <;> omega, by split <;> omega, hd8, T8, B7.trans B8⟩
      · walk_at "go"
        exact hN _ _ ⟨wd, rfl, w0, Int.le_refl _, hd8, T8, B7.trans B8⟩
    clear hd7 T7 B7 hd6 T6 B6 B5 B4 hp4 T4 B3 hT B1 T1 B2 T2 B02 np np2 hw hw2
    rintro σ' H8 ⟨v, rfl, v0, v1, hd8, T8, B8⟩
    have vw : v.toNat ≤ wd.toNat := by omega
    walk_at "go"
    refine ⟨k, rfl, by omega, by omega, ?_⟩
    have kn : k.toNat ≤ 8 := by omega
    generalize k.toNat = kk at w2 kn ⊢
    refine for_range (fun i σ H' => ∃ (xs : List Int) (e : Addr) (y : Option V), σ = [some (.ref t), some (.int 9), some (.int k), some (.int ch), some (.int v), y, some (.ref e)] ∧ l1 xs ≤ (v.toNat + 1) ^ i ∧ xs.length ≤ 1 + 2 * i ∧ trim xs = xs ∧ H e = none ∧ H' e = some (.tup (xs.map V.int)) ∧ Tape H' t a ∧ But t H H') ⟨[z0], d, none, rfl, by rw [l1_cons, z0b]; simp [l1], Nat.le_refl _, by rw [trim, if_neg (fun c => by rw [c.1] at z0b; cases z0b)]; rfl, nd0, hd8, T8, B8⟩ ?_ ?_
    · rintro i σ H9 hi ⟨xs, e, y, rfl, xl, xn, xt, ne, he, T9, B9⟩
      walk_at "go"
      refine ⟨t, a, _, rfl, T9, by omega, fun n H10 n0 n1 T10 B10 => ?_⟩
      have et : e ≠ t := fun h => by
        rw [h] at ne
        obtain ⟨_, _, _, _, _, _, _, _, _, hh⟩ := hT0
        rw [hh] at ne; cases ne
      have he10 := B10 e _ et he
      walk_at "go"
      refine ⟨by show 2 ≤ sizeLine; decide, fun r nr => ?_⟩
      walk_at "go"
      have s2 := new_same (o := .tup [.int (0 - n), .int 1]) nr
      refine ⟨e, r, xs, [0 - n, 1], rfl, sqT (s2 _ _ he10), sqT upd_same, by omega, by show 2 ≤ 400; decide, fun z hz => ?_, fun f H11 S11 n11 h11 => ?_⟩
      · simp at hz
        omega
      · walk_at "go"
        have B11 := (B9.trans B10).trans (Same.but (s2.trans S11))
        have T11 := (T10.same s2).same S11
        have ft := (T10.same s2).ne n11
        refine ⟨_, f, _, rfl, ?_, ?_, trim_trim _, ((B9.trans B10).trans (Same.but s2)).free n11 ft.1, h11, T11, B11⟩
        · refine Nat.le_trans (mul_l1 _ _) ?_
          rw [Nat.pow_succ]
          refine Nat.mul_le_mul xl ?_
          simp [l1]
          omega
        · have := mul_len xs [0 - n, 1]
          unfold mulL at this
          rw [show ([0 - n, 1] : List Int).length = 2 from rfl] at this
          omega
    rintro σ H9 ⟨xs, e, y, rfl, xl, xn, xt, ne, he, T9, B9⟩
    have xb := Nat.le_trans xl (pow_le vw (Nat.le_refl _) w2)
    have et : e ≠ t := fun h => by
      rw [h] at ne
      obtain ⟨_, _, _, _, _, _, _, _, _, hh⟩ := hT0
      rw [hh] at ne; cases ne
    walk_at "go"
    refine l_if (fun f1 => ?_) (fun f1 => ?_)
    · walk_at "go"
      refine ⟨t, a, 3, rfl, T9, by decide, fun n H10 n0 n1 T10 B10 => ?_⟩
      have he10 := B10 e _ et he
      walk_at "go"
      refine ⟨by show 1 ≤ sizeLine; decide, fun r nr => ?_⟩
      walk_at "go"
      have s2 := new_same (o := .tup [.int (n - 1)]) nr
      refine ⟨e, r, xs, [n - 1], rfl, sqT (s2 _ _ he10), sqT upd_same, by omega, by show 1 ≤ 400; decide, fun f H11 S11 n11 h11 => ?_⟩
      walk_at "go"
      have B11 := (B9.trans B10).trans (Same.but (s2.trans S11))
      have T11 := (T10.same s2).same S11
      have ft := (T10.same s2).ne n11
      show Q _ _
      refine q _ f H11 (((B9.trans B10).trans (Same.but s2)).free n11 ft.1) h11 ?_ (fun z hz => ?_) (trim_trim _) T11 B11
      · have := add_len xs [n - 1]
        rw [show ([n - 1] : List Int).length = 1 from rfl] at this
        omega
      · have := add_l1 hz
        rw [l1_cons] at this
        simp [l1] at this
        simp [l1] at xb
        omega
    · walk_at "go"
      show Q _ _
      refine q _ e H9 ne he (by omega) (fun z hz => ?_) xt T9 B9
      have := l1_mem hz
      omega
end
end K28
namespace K28
open PySem PySem.Spec PyProof.Rows L2 Tq
section
variable {P : Program} {w : World} {K : PySem.W.Frag} {mg : Str → Option Value} {base : Heap}
def spWholes (K : PySem.W.Frag) : Sp := fun vs H Q _ => ∃ (p : Addr) (xs : List Int), vs = [.ref p] ∧ SqT K H p (xs.map V.int) ∧ ∀ H', Same H H' → Q (.bl true) H'

theorem ok_law_wholes (D : Ds K mg) (T : Txt mg) : FnOk P w K mg base CX0 1 D.law_wholes.f D.law_wholes.fd ["told"] (spWholes K) := by
  have sc := sc_law_wholes
  refine D.law_wholes.F.ok sc (fun vs H Q E h => ?_) (fun cdv A outer s H vs Q E hr h => ?_)
  · obtain ⟨p, xs, rfl, _⟩ := h
    rfl
  · obtain ⟨p, xs, rfl, hS, q⟩ := h
    refine ⟨_, (pss_cons (ps_if (pt_not (pt_val (pe_callB (k_isi (K := K) rfl) (by rfl) T.b_isinstance (by decide +kernel) (pa_cons (pv 0) (pa_cons (pe_bltn (v := .ty "tuple") (by rfl) T.b_tuple (by decide +kernel) rfl) pa_nil))))) (pss_one (ps_ret pe_bl)) pss_nil)
    (pss_one (ps_ret (pe_cmpR op_eq (pe_callB (k_len (K := K) rfl) (by rfl) T.b_len PySem.boot_len (pa_cons (pe_lc (own := [("number", 1)]) rfl sc.nd (k_piT (K := K) rfl (pv 0)) (blkOk_by (N := ["told", "number"]) (sc := defScope s_law_wholes) (by decide +kernel)) (fun _ _ _ _ _ => (pg_name (i := 1) sc.nd rfl (Or.inl rfl))) (fun _ _ _ _ _ => pts_one (PW.pt (pw_or (pt_not (pt_val (pe_callB (k_isi (K := K) rfl) (by rfl) T.b_isinstance (by decide +kernel) (pa_cons (pv 1) (pa_cons (pe_bltn (v := .ty "int") (by rfl) T.b_int (by decide +kernel) rfl) pa_nil))))) (pw_or1 (pt_val (pe_callB (k_isi (K := K) rfl) (by rfl) T.b_isinstance (by decide +kernel) (pa_cons (pv 1) (pa_cons (pe_bltn (v := .ty "bool") (by rfl) T.b_bool (by decide +kernel) rfl) pa_nil)))))))) (fun _ _ _ _ _ => (pv 1))) pa_nil)) pe_int (nomark _))))), ?_⟩
    walk_at "go"
    refine ⟨p, rfl, ⟨_, hS⟩, fun c nc => lc_tup (xs := xs.map V.int) (fun i H' => Same H H' ∧ H' c = some (.lst [])) ⟨new_same nc, upd_same⟩ ?_ ?_ ?_⟩
    · rintro i H' _ ⟨sm, _⟩
      exact sm.seqT hS
    · rintro i x H' hx ⟨sm, hc⟩
      obtain ⟨z, hz, rfl⟩ := ints_get hx
      walk_at "go"
      refine ⟨rfl, ?_⟩
      walk_at "go"
      exact ⟨sm, hc⟩
    · rintro H' ⟨sm, hc⟩
      walk_at "go"
      show Q _ _
      exact q H' sm
end
end K28
namespace K28
open PySem PySem.Spec PyProof.Rows L2 Tq
section
variable {P : Program} {w : World} {K : PySem.W.Frag} {mg : Str → Option Value} {base : Heap}
def spLaw (K : PySem.W.Frag) : Sp := fun vs H Q _ => ∃ (a : Addr) (ns : List Int), vs = [.ref a] ∧ SqL K H a (ns.map V.int) ∧ ns.length ≤ 63 ∧ ∀ H', Q (.bl true) H'

theorem ok_law (D : Ds K mg) (T : Txt mg) : FnOk P w K mg base CX0 4 D.law.f D.law.fd ["script"] (spLaw K) := by
  have sc := sc_law
  refine D.law.F.ok sc (fun vs H Q E h => ?_) (fun cdv A outer s H vs Q E hr h => ?_)
  · obtain ⟨s0, ns, rfl, _⟩ := h
    rfl
  · obtain ⟨s0, ns, rfl, hS, few, q⟩ := h
    refine ⟨_, (pss_cons (ps_set (i := 1) sc.nd rfl (Or.inl rfl) (pe_call (ok_law_tape D T) (hr.mono (by decide)) (by rfl) D.law_tape.g D.law_tape.F.kp D.law_tape.b .nil pass0 (pa_cons (pv 0) pa_nil)))
    (pss_cons (ps_set (i := 2) sc.nd rfl (Or.inl rfl) (pe_call (ok_law_polynomial D T) hr (by rfl) D.law_polynomial.g D.law_polynomial.F.kp D.law_polynomial.b .nil pass0 (pa_cons (pv 1) (pa_cons pe_int pa_nil))))
    (pss_cons (ps_set (i := 3) sc.nd rfl (Or.inl rfl) (pe_call (ok_law_polynomial D T) hr (by rfl) D.law_polynomial.g D.law_polynomial.F.kp D.law_polynomial.b .nil pass0 (pa_cons (pv 1) (pa_cons pe_int pa_nil))))
    (pss_cons (ps_if (pt_cmpR op_eq (pe_call (ok_law_draw D T) (hr.mono (by decide)) (by rfl) D.law_draw.g D.law_draw.F.kp D.law_draw.b .nil pass0 (pa_cons (pv 1) (pa_cons pe_int pa_nil))) pe_int (nomark _)) (pss_one (ps_set (i := 3) sc.nd rfl (Or.inl rfl) (pe_callTy (k_tuple (K := K) rfl) (by rfl) T.b_tuple (by decide +kernel) (pa_cons (pe_lc (own := [("number", 4)]) rfl sc.nd (k_piT (K := K) rfl (pv 2)) (blkOk_by (N := ["script", "tape", "first", "second", "number", "n", "told", "start", "many", "due", "k"]) (sc := defScope s_law) (by decide +kernel)) (fun _ _ _ _ _ => (pg_name (i := 4) sc.nd rfl (Or.inl rfl))) (fun _ _ _ _ _ => pts_nil) (fun _ _ _ _ _ => (pe_op o_sub pe_int (pv 4)))) pa_nil)))) pss_nil)
    (pss_cons (ps_for PassesOwn.never rfl (k_piL (K := K) rfl (pe_lst (pa_cons (pe_call (ok_law_draw D T) (hr.mono (by decide)) (by rfl) D.law_draw.g D.law_draw.F.kp D.law_draw.b .nil pass0 (pa_cons (pv 1) (pa_cons pe_int pa_nil))) (pa_cons (pe_call (ok_law_draw D T) (hr.mono (by decide)) (by rfl) D.law_draw.g D.law_draw.F.kp D.law_draw.b .nil pass0 (pa_cons (pv 1) (pa_cons (pe_op o_add (pe_op o_pow pe_int pe_int) pe_int) pa_nil))) (pa_cons (pe_op o_sub pe_int (pe_call (ok_law_draw D T) (hr.mono (by decide)) (by rfl) D.law_draw.g D.law_draw.F.kp D.law_draw.b .nil pass0 (pa_cons (pv 1) (pa_cons (pe_op o_add (pe_op o_pow pe_int pe_int) pe_int) pa_nil)))) pa_nil))))) (pg_name (i := 5) sc.nd rfl (Or.inl rfl)) (pss_cons (ps_set (i := 6) sc.nd rfl (Or.inl rfl) (pe_call (ok_value_at D T) (hr.mono (by decide)) (by rfl) D.value_at.g D.value_at.F.kp D.value_at.b .nil pass0 (pa_cons (pv 2) (pa_cons (pv 5) pa_nil))))
    (pss_one (ps_if (PW.pt (pw_or (pt_not (pt_val (pe_callB (k_isi (K := K) rfl) (by rfl) T.b_isinstance (by decide +kernel) (pa_cons (pv 6) (pa_cons (pe_bltn (v := .ty "int") (by rfl) T.b_int (by decide +kernel) rfl) pa_nil))))) (pw_or (pt_val (pe_callB (k_isi (K := K) rfl) (by rfl) T.b_isinstance (by decide +kernel) (pa_cons (pv 6) (pa_cons (pe_bltn (v := .ty "bool") (by rfl) T.b_bool (by decide +kernel) rfl) pa_nil)))) (pw_or1 (pt_cmpR op_ne (pv 6) (pe_call (ok_law_value D T) (hr.mono (by decide)) (by rfl) D.law_value.g D.law_value.F.kp D.law_value.b .nil pass0 (pa_cons (pv 2) (pa_cons (pv 5) pa_nil))) (nomark _)))))) (pss_one (ps_ret pe_bl)) pss_nil))))
    (pss_cons (ps_set (i := 7) sc.nd rfl (Or.inl rfl) (pe_call (ok_law_draw D T) (hr.mono (by decide)) (by rfl) D.law_draw.g D.law_draw.F.kp D.law_draw.b .nil pass0 (pa_cons (pv 1) (pa_cons pe_int pa_nil))))
    (pss_cons (ps_set (i := 8) sc.nd rfl (Or.inl rfl) (pe_call (ok_law_draw D T) (hr.mono (by decide)) (by rfl) D.law_draw.g D.law_draw.F.kp D.law_draw.b .nil pass0 (pa_cons (pv 1) (pa_cons pe_int pa_nil))))
    (pss_cons (ps_set (i := 6) sc.nd rfl (Or.inl rfl) (pe_lst (pa_cons (pe_call (ok_added D T) (hr.mono (by decide)) (by rfl) D.added.g D.added.F.kp D.added.b .nil pass0 (pa_cons (pv 2) (pa_cons (pv 3) pa_nil))) (pa_cons (pe_call (ok_multiplied D T) (hr.mono (by decide)) (by rfl) D.multiplied.g D.multiplied.F.kp D.multiplied.b .nil pass0 (pa_cons (pv 2) (pa_cons (pv 3) pa_nil))) (pa_cons (pe_call (ok_falling D T) hr (by rfl) D.falling.g D.falling.F.kp D.falling.b .nil pass0 (pa_cons (pv 7) (pa_cons (pv 8) pa_nil))) pa_nil)))))
    (pss_cons (ps_set (i := 9) sc.nd rfl (Or.inl rfl) (pe_lst (pa_cons (pe_call (ok_law_plus D T) (hr.mono (by decide)) (by rfl) D.law_plus.g D.law_plus.F.kp D.law_plus.b .nil pass0 (pa_cons (pv 2) (pa_cons (pv 3) pa_nil))) (pa_cons (pe_call (ok_law_times D T) (hr.mono (by decide)) (by rfl) D.law_times.g D.law_times.F.kp D.law_times.b .nil pass0 (pa_cons (pv 2) (pa_cons (pv 3) pa_nil))) (pa_cons (pe_call (ok_law_falling D T) hr (by rfl) D.law_falling.g D.law_falling.F.kp D.law_falling.b .nil pass0 (pa_cons (pv 7) (pa_cons (pv 8) pa_nil))) pa_nil)))))
    (pss_cons (ps_for PassesOwn.never rfl (pi_range1 (by rfl) T.b_range (pa_cons pe_int pa_nil)) (pg_name (i := 10) sc.nd rfl (Or.inl rfl)) (pss_one (ps_if (PW.pt (pw_or (pt_not (pt_val (pe_call (ok_law_wholes D T) (hr.mono (by decide)) (by rfl) D.law_wholes.g D.law_wholes.F.kp D.law_wholes.b .nil pass0 (pa_cons (pe_ix (k_ixL (K := K) rfl) (pv 6) (pv 10) (fun _ _ => rfl)) pa_nil)))) (pw_or1 (pt_cmpR (k_neD (K := K) rfl hr.units) (pe_ix (k_ixL (K := K) rfl) (pv 6) (pv 10) (fun _ _ => rfl)) (pe_ix (k_ixL (K := K) rfl) (pv 9) (pv 10) (fun _ _ => rfl)) (nomark _))))) (pss_one (ps_ret pe_bl)) pss_nil)))
    (pss_one (ps_ret (pe_cmpR op_eq (pe_call (ok_value_at D T) (hr.mono (by decide)) (by rfl) D.value_at.g D.value_at.F.kp D.value_at.b .nil pass0 (pa_cons (pe_ix (k_ixL (K := K) rfl) (pv 6) pe_int (fun _ _ => rfl)) (pa_cons (pe_op o_add (pv 7) (pv 8)) pa_nil))) (pe_call (ok_law_value D T) (hr.mono (by decide)) (by rfl) D.law_value.g D.law_value.F.kp D.law_value.b .nil pass0 (pa_cons (pe_ix (k_ixL (K := K) rfl) (pv 9) pe_int (fun _ _ => rfl)) (pa_cons (pe_op o_add (pv 7) (pv 8)) pa_nil))) (nomark _)))))))))))))), ?_⟩
    walk_at "go"
    refine ⟨s0, ns, rfl, hS, few, fun t a H1 _ T1 _ _ => ?_⟩
    walk_at "go"
    refine ⟨t, a, rfl, T1, fun X p H2 np hp Xl Xb Xt T2 B2 => ?_⟩
    walk_at "go"
    refine ⟨t, a, rfl, T2, fun Y r H3 nr hr Yl Yb Yt T3 B3 => ?_⟩
    have pt := (T1.ne np).1
    have hp3 := B3 p _ pt hp
    refine l_gname ?_
    with_reducible refine' l_cut (fun σ' H' => ∃ (Y : List Int) (r : Addr), σ' = [some (.ref s0), some (.ref t), some (.ref p), some (.ref r), none, none, none, none, none, none, none] ∧ H' p = some (.tup (X.map V.int)) ∧ H' r = some (.tup (Y.map V.int)) ∧ r ≠ t ∧ Y.length ≤ 40 ∧ (∀ z ∈ Y, -(2 ^ 31) < z ∧ z < 2 ^ 31) ∧ Tape H' t a) (fun N hN => ?_) ?_
    · walk_at "go"
      refine ⟨t, a, 6, rfl, T3, by decide, fun k H4 k0 k1 T4 B4 => ?_⟩
      have hp4 := B4 p _ pt hp3
      have rt := (T2.ne nr).1
      have hr4 := B4 r _ rt hr
      walk_at "go"
      refine l_if (fun c1 => ?_) (fun c1 => ?_)
      · walk_at "go"
        refine ⟨p, rfl, ⟨_, sqT hp4⟩, fun c nc => lc_tup (xs := X.map V.int) (fun i H' => H' p = some (.tup (X.map V.int)) ∧ H' c = some (.lst (((X.take i).map fun z => 0 - z).map V.int)) ∧ Tape H' t a) ⟨by rw [upd_ne (ne_of_none hp4 nc)]; exact hp4, by rw [upd_same]; rfl, T4.put (T4.ne nc).1 (T4.ne nc).2⟩ ?_ ?_ ?_⟩
        · rintro i H' _ ⟨h, _⟩
          exact sqT h
        · rintro i x H' hx ⟨h, hc, T5⟩
          obtain ⟨z, hz, rfl⟩ := ints_get hx
          walk_at "go"
          refine ⟨rfl, ?_⟩
          walk_at "go"
          have cp : p ≠ c := ne_of_none hp4 nc
          refine ⟨_, hc, fits_lt (by rw [List.length_map, List.length_map, List.length_take]; omega), by rw [upd_ne cp]; exact h, ?_, T5.put (T4.ne nc).1 (T4.ne nc).2⟩
          rw [upd_same, List.take_succ, hz, List.map_append, List.map_append]; rfl
        · rintro H' ⟨h, hc, T5⟩
          walk_at "go"
          rw [List.length_map, List.take_length] at hc
          refine l_tupL (sqL hc) fun e ne => ?_
          refine l_gname ?_
          refine hN _ _ ⟨X.map fun z => 0 - z, e, rfl, by rw [upd_ne (ne_of_none h ne)]; exact h, upd_same, (T5.ne ne).1, by rw [List.length_map]; exact Xl, fun z hz => ?_, T5.put (T5.ne ne).1 (T5.ne ne).2⟩
          obtain ⟨u, hu, rfl⟩ := List.mem_map.mp hz
          have := Xb u hu
          omega
      · walk_at "go"
        exact hN _ _ ⟨Y, r, rfl, hp4, hr4, rt, Yl, Yb, T4⟩
    clear hr hp3 Yl Yb Yt nr T3 B3 hp T2 B2 np
    clear Y r
    rintro σ' H4 ⟨Y, r, rfl, hp, hr, rt, Yl, Yb, T4⟩
    walk_at "go"
    refine ⟨t, a, 20, rfl, T4, by decide, fun n1 H5 n10 n11 T5 B5 => ?_⟩
    walk_at "go"
    refine ⟨t, a, _, rfl, T5, by decide, fun n2 H6 n20 n21 T6 B6 => ?_⟩
    walk_at "go"
    refine ⟨t, a, _, rfl, T6, by decide, fun n3 H7 n30 n31 T7 B7 => ?_⟩
    have B47 := (B5.trans B6).trans B7
    have hp7 := B47 p _ pt hp
    have hr7 := B47 r _ rt hr
    walk_at "go"
    have p9 : (10 : Int) ^ Int.toNat 9 = 1000000000 := by decide
    rw [p9] at n21 n31
    refine ⟨by show 3 ≤ sizeLine; decide, fun c nc => ?_⟩
    have T8 := T7.put (u := .lst [.int n1, .int n2, .int (0 - n3)]) (T7.ne nc).1 (T7.ne nc).2
    have S8 := new_same (o := .lst ([n1, n2, 0 - n3].map V.int)) nc
    refine ⟨c, rfl, ⟨_, sqL upd_same⟩, for_list (xs := [n1, n2, 0 - n3].map V.int) (fun i σ H' => ∃ y5 y6 : Option V, σ = [some (.ref s0), some (.ref t), some (.ref p), some (.ref r), none, y5, y6, none, none, none, none] ∧ H' c = some (.lst ([n1, n2, 0 - n3].map V.int)) ∧ H' p = some (.tup (X.map V.int)) ∧ H' r = some (.tup (Y.map V.int)) ∧ Tape H' t a) ⟨none, none, rfl, upd_same, S8 _ _ hp7, S8 _ _ hr7, T8⟩ ?_ ?_ ?_⟩
    · rintro i σ H' _ ⟨y5, y6, rfl, hc, _⟩
      exact sqL hc
    · rintro i x σ H' hx ⟨y5, y6, rfl, hc, hp, hr, T9⟩
      obtain ⟨z, hz, rfl⟩ := ints_get hx
      have zb : -(2 ^ 64) < z ∧ z < 2 ^ 64 := by
        have := List.mem_of_getElem? hz
        simp at this
        omega
      walk_at "go"
      refine ⟨p, X, z, rfl, sqT hp, by omega, zb.1, zb.2, ?_⟩
      walk_at "go"
      refine ⟨p, X, z, rfl, sqT hp, by omega, zb.1, zb.2, ?_⟩
      walk_at "go"
      rw [decide_eq_true rfl]
      walk_at "go"
      exact ⟨_, _, rfl, hc, hp, hr, T9⟩
    clear hp7 hr7 T8 S8 nc hp hr
    rintro σ H8 ⟨y5, y6, rfl, _, hp, hr, T8⟩
    walk_at "go"
    refine ⟨t, a, _, rfl, T8, by decide, fun st H9 st0 st1 T9 B9 => ?_⟩
    walk_at "go"
    refine ⟨t, a, _, rfl, T9, by decide, fun m H10 m0 m1 T10 B10 => ?_⟩
    have hp10 := (B9.trans B10) p _ pt hp
    have hr10 := (B9.trans B10) r _ rt hr
    have Yw : ∀ z ∈ Y, -(2 ^ 64) < z ∧ z < 2 ^ 64 := fun z hz => by
      have := Yb z hz
      omega
    walk_at "go"
    refine ⟨p, r, X, Y, rfl, sqT hp10, sqT hr10, by omega, by omega, fun a1 H11 S11 _ h1 => ?_⟩
    have hp11 := S11 _ _ hp10
    have hr11 := S11 _ _ hr10
    walk_at "go"
    refine ⟨p, r, X, Y, rfl, sqT hp11, sqT hr11, by omega, by omega, Yw, fun a2 H12 S12 _ h2 => ?_⟩
    have hp12 := S12 _ _ hp11
    have hr12 := S12 _ _ hr11
    have h1 := S12 _ _ h1
    walk_at "go"
    refine ⟨st, m, rfl, st0, by omega, m0, by omega, fun a3 H13 S13 _ h3 => ?_⟩
    have hp13 := S13 _ _ hp12
    have hr13 := S13 _ _ hr12
    have h1 := S13 _ _ h1
    have h2 := S13 _ _ h2
    walk_at "go"
    refine ⟨by show 3 ≤ sizeLine; decide, fun tl nt => ?_⟩
    have S14 := new_same (o := .lst [V.ref a1, .ref a2, .ref a3]) nt
    have hp14 := S14 _ _ hp13
    have hr14 := S14 _ _ hr13
    have h1 := S14 _ _ h1
    have h2 := S14 _ _ h2
    have h3 := S14 _ _ h3
    have ht : (L2.upd H13 tl (.lst [V.ref a1, .ref a2, .ref a3])) tl = some (.lst [V.ref a1, .ref a2, .ref a3]) := upd_same
    generalize L2.upd H13 tl (.lst [V.ref a1, .ref a2, .ref a3]) = H14 at S14 hp14 hr14 h1 h2 h3 ht ⊢
    walk_at "go"
    refine ⟨p, r, X, Y, rfl, sqT hp14, sqT hr14, by omega, by omega, fun b1 H15 S15 _ g1 => ?_⟩
    have hp15 := S15 _ _ hp14
    have hr15 := S15 _ _ hr14
    walk_at "go"
    refine ⟨p, r, X, Y, rfl, sqT hp15, sqT hr15, by omega, by omega, Yw, fun b2 H16 S16 _ g2 => ?_⟩
    have g1 := S16 _ _ g1
    walk_at "go"
    refine ⟨st, m, rfl, st0, by omega, m0, by omega, fun b3 H17 S17 _ g3 => ?_⟩
    have g1 := S17 _ _ g1
    have g2 := S17 _ _ g2
    walk_at "go"
    refine ⟨by show 3 ≤ sizeLine; decide, fun dl nd => ?_⟩
    have S18 := new_same (o := .lst [V.ref b1, .ref b2, .ref b3]) nd
    have g1 := S18 _ _ g1
    have g2 := S18 _ _ g2
    have g3 := S18 _ _ g3
    have S1418 := ((S15.trans S16).trans S17).trans S18
    have h1 := S1418 _ _ h1
    have h2 := S1418 _ _ h2
    have h3 := S1418 _ _ h3
    have ht := S1418 _ _ ht
    have hd : (L2.upd H17 dl (.lst [V.ref b1, .ref b2, .ref b3])) dl = some (.lst [V.ref b1, .ref b2, .ref b3]) := upd_same
    generalize L2.upd H17 dl (.lst [V.ref b1, .ref b2, .ref b3]) = H18 at h1 h2 h3 g1 g2 g3 ht hd ⊢
    clear S1418 S18 S17 S16 S15 S14
    have three : ∀ i : Nat, i < 3 → ∃ (P : List Int) (ea eb : Addr), atI [V.ref a1, .ref a2, .ref a3] (i : Int) = some (.ref ea) ∧ atI [V.ref b1, .ref b2, .ref b3] (i : Int) = some (.ref eb) ∧ H18 ea = some (.tup (P.map V.int)) ∧ H18 eb = some (.tup (P.map V.int)) := fun i hi => by
      rcases i with _ | _ | _ | i
      · exact ⟨_, a1, b1, rfl, rfl, h1, g1⟩
      · exact ⟨_, a2, b2, rfl, rfl, h2, g2⟩
      · exact ⟨_, a3, b3, rfl, rfl, h3, g3⟩
      · omega
    walk_at "go"
    refine ⟨3, rfl, by decide, by decide, ?_⟩
    refine for_range (fun i σ H' => ∃ (y : Option V), σ = [some (.ref s0), some (.ref t), some (.ref p), some (.ref r), none, y5, some (.ref tl), some (.int st), some (.int m), some (.ref dl), y] ∧ Same H18 H') ⟨none, rfl, fun _ _ h => h⟩ ?_ ?_
    · rintro i σ H' hi ⟨y, rfl, sm⟩
      obtain ⟨P, ea, eb, e1, e2, ga, gb⟩ := three i (by simpa using hi)
      have ht2 := sm _ _ ht
      have hd2 := sm _ _ hd
      rw [show (0 : Int) + (i : Int) = (i : Int) by omega]
      walk_at "go"
      refine ⟨ea, P, rfl, sqT (sm _ _ ga), fun H2 S2 => ?_⟩
      have ht3 := S2 _ _ ht2
      have hd3 := S2 _ _ hd2
      walk_at "go"
      refine l_neInts (sqT (S2 _ _ (sm _ _ ga))) (sqT (S2 _ _ (sm _ _ gb))) ?_
      rw [decide_eq_true rfl]
      walk_at "go"
      exact ⟨_, rfl, sm.trans S2⟩
    · rintro σ H' ⟨y, rfl, sm⟩
      have ht2 := sm _ _ ht
      have hd2 := sm _ _ hd
      have e1 : atI [V.ref a1, .ref a2, .ref a3] 2 = some (.ref a3) := rfl
      have e2 : atI [V.ref b1, .ref b2, .ref b3] 2 = some (.ref b3) := rfl
      have fl := fal_len st m.toNat
      walk_at "go"
      refine ⟨a3, _, st + m, rfl, sqT (sm _ _ h3), by omega, by omega, by omega, ?_⟩
      walk_at "go"
      refine ⟨b3, _, st + m, rfl, sqT (sm _ _ g3), by omega, by omega, by omega, ?_⟩
      walk_at "go"
      rw [decide_eq_true rfl]
      exact q _
end
end K28
namespace K28
open PySem PySem.Spec PyProof.Rows L2 Tq
theorem all_mk {l : PySem.W.OpenLaw} {w : World} {K : PySem.W.Frag} {h : Heap} {mg : Str → Option Value} {fa : Addr} (X : K.In h) (G : h.Ns mainGlobals mg) (hfa : mg "law" = some (.ref fa))
    {f_value_at f_added f_multiplied f_falling f_without_last_zeros f_law_tape f_law_draw f_law_trimmed f_law_plus f_law_times f_law_value f_law_falling f_law_polynomial f_law_wholes f_law : Addr} {od_value_at od_added od_multiplied od_falling od_without_last_zeros od_law_tape od_law_draw od_law_trimmed od_law_plus od_law_times od_law_value od_law_falling od_law_polynomial od_law_wholes od_law an_value_at an_added an_multiplied an_falling an_without_last_zeros an_law_tape an_law_draw an_law_trimmed an_law_plus an_law_times an_law_value an_law_falling an_law_polynomial an_law_wholes an_law : Option Addr} {sl_value_at sl_added sl_multiplied sl_falling sl_without_last_zeros sl_law_tape sl_law_draw sl_law_trimmed sl_law_plus sl_law_times sl_law_value sl_law_falling sl_law_polynomial sl_law_wholes sl_law : Array (Option Value)} {oc_value_at kV_value_at dc_value_at pm_value_at cd_value_at ct_value_at oc_added kV_added dc_added pm_added cd_added ct_added oc_multiplied kV_multiplied dc_multiplied pm_multiplied cd_multiplied ct_multiplied oc_falling kV_falling dc_falling pm_falling cd_falling ct_falling oc_without_last_zeros kV_without_last_zeros dc_without_last_zeros pm_without_last_zeros cd_without_last_zeros ct_without_last_zeros oc_law_tape kV_law_tape dc_law_tape pm_law_tape cd_law_tape ct_law_tape oc_law_draw kV_law_draw dc_law_draw pm_law_draw cd_law_draw ct_law_draw oc_law_trimmed kV_law_trimmed dc_law_trimmed pm_law_trimmed cd_law_trimmed ct_law_trimmed oc_law_plus kV_law_plus dc_law_plus pm_law_plus cd_law_plus ct_law_plus oc_law_times kV_law_times dc_law_times pm_law_times cd_law_times ct_law_times oc_law_value kV_law_value dc_law_value pm_law_value cd_law_value ct_law_value oc_law_falling kV_law_falling dc_law_falling pm_law_falling cd_law_falling ct_law_falling oc_law_polynomial kV_law_polynomial dc_law_polynomial pm_law_polynomial cd_law_polynomial ct_law_polynomial oc_law_wholes kV_law_wholes dc_law_wholes pm_law_wholes cd_law_wholes ct_law_wholes oc_law kV_law dc_law pm_law cd_law ct_law : Value}
    (a_value_at : PySem.W.nsIn K mainGlobals "value_at" = some (some (.ref f_value_at)))
    (l_value_at : K.lookup f_value_at = some ⟨oc_value_at, od_value_at, .func (PySem.W.fnOf "value_at" "value_at" (defArgs s_value_at) (defBody s_value_at) (defScope s_value_at) .none kV_value_at dc_value_at pm_value_at an_value_at cd_value_at ct_value_at), sl_value_at⟩)
    (c_value_at : PySem.W.codeIn K cd_value_at "value_at" = true) (k_value_at : PySem.W.keepIn K (.ref f_value_at) = true)
    (a_added : PySem.W.nsIn K mainGlobals "added" = some (some (.ref f_added)))
    (l_added : K.lookup f_added = some ⟨oc_added, od_added, .func (PySem.W.fnOf "added" "added" (defArgs s_added) (defBody s_added) (defScope s_added) .none kV_added dc_added pm_added an_added cd_added ct_added), sl_added⟩)
    (c_added : PySem.W.codeIn K cd_added "added" = true) (k_added : PySem.W.keepIn K (.ref f_added) = true)
    (a_multiplied : PySem.W.nsIn K mainGlobals "multiplied" = some (some (.ref f_multiplied)))
    (l_multiplied : K.lookup f_multiplied = some ⟨oc_multiplied, od_multiplied, .func (PySem.W.fnOf "multiplied" "multiplied" (defArgs s_multiplied) (defBody s_multiplied) (defScope s_multiplied) .none kV_multiplied dc_multiplied pm_multiplied an_multiplied cd_multiplied ct_multiplied), sl_multiplied⟩)
    (c_multiplied : PySem.W.codeIn K cd_multiplied "multiplied" = true) (k_multiplied : PySem.W.keepIn K (.ref f_multiplied) = true)
    (a_falling : PySem.W.nsIn K mainGlobals "falling" = some (some (.ref f_falling)))
    (l_falling : K.lookup f_falling = some ⟨oc_falling, od_falling, .func (PySem.W.fnOf "falling" "falling" (defArgs s_falling) (defBody s_falling) (defScope s_falling) .none kV_falling dc_falling pm_falling an_falling cd_falling ct_falling), sl_falling⟩)
    (c_falling : PySem.W.codeIn K cd_falling "falling" = true) (k_falling : PySem.W.keepIn K (.ref f_falling) = true)
    (a_without_last_zeros : PySem.W.nsIn K mainGlobals "without_last_zeros" = some (some (.ref f_without_last_zeros)))
    (l_without_last_zeros : K.lookup f_without_last_zeros = some ⟨oc_without_last_zeros, od_without_last_zeros, .func (PySem.W.fnOf "without_last_zeros" "without_last_zeros" (defArgs s_without_last_zeros) (defBody s_without_last_zeros) (defScope s_without_last_zeros) .none kV_without_last_zeros dc_without_last_zeros pm_without_last_zeros an_without_last_zeros cd_without_last_zeros ct_without_last_zeros), sl_without_last_zeros⟩)
    (c_without_last_zeros : PySem.W.codeIn K cd_without_last_zeros "without_last_zeros" = true) (k_without_last_zeros : PySem.W.keepIn K (.ref f_without_last_zeros) = true)
    (a_law_tape : PySem.W.nsIn K mainGlobals "_law_tape" = some (some (.ref f_law_tape)))
    (l_law_tape : K.lookup f_law_tape = some ⟨oc_law_tape, od_law_tape, .func (PySem.W.fnOf "_law_tape" "_law_tape" (defArgs s_law_tape) (defBody s_law_tape) (defScope s_law_tape) .none kV_law_tape dc_law_tape pm_law_tape an_law_tape cd_law_tape ct_law_tape), sl_law_tape⟩)
    (c_law_tape : PySem.W.codeIn K cd_law_tape "_law_tape" = true) (k_law_tape : PySem.W.keepIn K (.ref f_law_tape) = true)
    (a_law_draw : PySem.W.nsIn K mainGlobals "_law_draw" = some (some (.ref f_law_draw)))
    (l_law_draw : K.lookup f_law_draw = some ⟨oc_law_draw, od_law_draw, .func (PySem.W.fnOf "_law_draw" "_law_draw" (defArgs s_law_draw) (defBody s_law_draw) (defScope s_law_draw) .none kV_law_draw dc_law_draw pm_law_draw an_law_draw cd_law_draw ct_law_draw), sl_law_draw⟩)
    (c_law_draw : PySem.W.codeIn K cd_law_draw "_law_draw" = true) (k_law_draw : PySem.W.keepIn K (.ref f_law_draw) = true)
    (a_law_trimmed : PySem.W.nsIn K mainGlobals "_law_trimmed" = some (some (.ref f_law_trimmed)))
    (l_law_trimmed : K.lookup f_law_trimmed = some ⟨oc_law_trimmed, od_law_trimmed, .func (PySem.W.fnOf "_law_trimmed" "_law_trimmed" (defArgs s_law_trimmed) (defBody s_law_trimmed) (defScope s_law_trimmed) .none kV_law_trimmed dc_law_trimmed pm_law_trimmed an_law_trimmed cd_law_trimmed ct_law_trimmed), sl_law_trimmed⟩)
    (c_law_trimmed : PySem.W.codeIn K cd_law_trimmed "_law_trimmed" = true) (k_law_trimmed : PySem.W.keepIn K (.ref f_law_trimmed) = true)
    (a_law_plus : PySem.W.nsIn K mainGlobals "_law_plus" = some (some (.ref f_law_plus)))
    (l_law_plus : K.lookup f_law_plus = some ⟨oc_law_plus, od_law_plus, .func (PySem.W.fnOf "_law_plus" "_law_plus" (defArgs s_law_plus) (defBody s_law_plus) (defScope s_law_plus) .none kV_law_plus dc_law_plus pm_law_plus an_law_plus cd_law_plus ct_law_plus), sl_law_plus⟩)
    (c_law_plus : PySem.W.codeIn K cd_law_plus "_law_plus" = true) (k_law_plus : PySem.W.keepIn K (.ref f_law_plus) = true)
    (a_law_times : PySem.W.nsIn K mainGlobals "_law_times" = some (some (.ref f_law_times)))
    (l_law_times : K.lookup f_law_times = some ⟨oc_law_times, od_law_times, .func (PySem.W.fnOf "_law_times" "_law_times" (defArgs s_law_times) (defBody s_law_times) (defScope s_law_times) .none kV_law_times dc_law_times pm_law_times an_law_times cd_law_times ct_law_times), sl_law_times⟩)
    (c_law_times : PySem.W.codeIn K cd_law_times "_law_times" = true) (k_law_times : PySem.W.keepIn K (.ref f_law_times) = true)
    (a_law_value : PySem.W.nsIn K mainGlobals "_law_value" = some (some (.ref f_law_value)))
    (l_law_value : K.lookup f_law_value = some ⟨oc_law_value, od_law_value, .func (PySem.W.fnOf "_law_value" "_law_value" (defArgs s_law_value) (defBody s_law_value) (defScope s_law_value) .none kV_law_value dc_law_value pm_law_value an_law_value cd_law_value ct_law_value), sl_law_value⟩)
    (c_law_value : PySem.W.codeIn K cd_law_value "_law_value" = true) (k_law_value : PySem.W.keepIn K (.ref f_law_value) = true)
    (a_law_falling : PySem.W.nsIn K mainGlobals "_law_falling" = some (some (.ref f_law_falling)))
    (l_law_falling : K.lookup f_law_falling = some ⟨oc_law_falling, od_law_falling, .func (PySem.W.fnOf "_law_falling" "_law_falling" (defArgs s_law_falling) (defBody s_law_falling) (defScope s_law_falling) .none kV_law_falling dc_law_falling pm_law_falling an_law_falling cd_law_falling ct_law_falling), sl_law_falling⟩)
    (c_law_falling : PySem.W.codeIn K cd_law_falling "_law_falling" = true) (k_law_falling : PySem.W.keepIn K (.ref f_law_falling) = true)
    (a_law_polynomial : PySem.W.nsIn K mainGlobals "_law_polynomial" = some (some (.ref f_law_polynomial)))
    (l_law_polynomial : K.lookup f_law_polynomial = some ⟨oc_law_polynomial, od_law_polynomial, .func (PySem.W.fnOf "_law_polynomial" "_law_polynomial" (defArgs s_law_polynomial) (defBody s_law_polynomial) (defScope s_law_polynomial) .none kV_law_polynomial dc_law_polynomial pm_law_polynomial an_law_polynomial cd_law_polynomial ct_law_polynomial), sl_law_polynomial⟩)
    (c_law_polynomial : PySem.W.codeIn K cd_law_polynomial "_law_polynomial" = true) (k_law_polynomial : PySem.W.keepIn K (.ref f_law_polynomial) = true)
    (a_law_wholes : PySem.W.nsIn K mainGlobals "_law_wholes" = some (some (.ref f_law_wholes)))
    (l_law_wholes : K.lookup f_law_wholes = some ⟨oc_law_wholes, od_law_wholes, .func (PySem.W.fnOf "_law_wholes" "_law_wholes" (defArgs s_law_wholes) (defBody s_law_wholes) (defScope s_law_wholes) .none kV_law_wholes dc_law_wholes pm_law_wholes an_law_wholes cd_law_wholes ct_law_wholes), sl_law_wholes⟩)
    (c_law_wholes : PySem.W.codeIn K cd_law_wholes "_law_wholes" = true) (k_law_wholes : PySem.W.keepIn K (.ref f_law_wholes) = true)
    (a_law : PySem.W.nsIn K mainGlobals "law" = some (some (.ref f_law)))
    (l_law : K.lookup f_law = some ⟨oc_law, od_law, .func (PySem.W.fnOf "law" "law" (defArgs s_law) (defBody s_law) (defScope s_law) .none kV_law dc_law pm_law an_law cd_law ct_law), sl_law⟩)
    (c_law : PySem.W.codeIn K cd_law "law" = true) (k_law : PySem.W.keepIn K (.ref f_law) = true)
    (z_abs : PySem.W.nsIn K mainGlobals "abs" = some none)
    (z_bool : PySem.W.nsIn K mainGlobals "bool" = some none)
    (z_enumerate : PySem.W.nsIn K mainGlobals "enumerate" = some none)
    (z_int : PySem.W.nsIn K mainGlobals "int" = some none)
    (z_isinstance : PySem.W.nsIn K mainGlobals "isinstance" = some none)
    (z_len : PySem.W.nsIn K mainGlobals "len" = some none)
    (z_list : PySem.W.nsIn K mainGlobals "list" = some none)
    (z_max : PySem.W.nsIn K mainGlobals "max" = some none)
    (z_min : PySem.W.nsIn K mainGlobals "min" = some none)
    (z_range : PySem.W.nsIn K mainGlobals "range" = some none)
    (z_reversed : PySem.W.nsIn K mainGlobals "reversed" = some none)
    (z_tuple : PySem.W.nsIn K mainGlobals "tuple" = some none) :
    ∃ fd : FuncData, (∀ (s : Shared) (v : Value), BindsTo s fd ⟨[v], []⟩ [("script", v)]) ∧ ∀ base : Heap, K.In base → base.Ns mainGlobals mg → FnOk l.prog w K mg base CX0 4 fa fd ["script"] (spLaw K) := by
  have e := hfa.symm.trans (PySem.W.mg_of X G a_law)
  cases e
  have T : Txt mg := ⟨PySem.W.mg_none_of X G z_abs, PySem.W.mg_none_of X G z_bool, PySem.W.mg_none_of X G z_enumerate, PySem.W.mg_none_of X G z_int, PySem.W.mg_none_of X G z_isinstance, PySem.W.mg_none_of X G z_len, PySem.W.mg_none_of X G z_list, PySem.W.mg_none_of X G z_max, PySem.W.mg_none_of X G z_min, PySem.W.mg_none_of X G z_range, PySem.W.mg_none_of X G z_reversed, PySem.W.mg_none_of X G z_tuple⟩
  let D_value_at : Df K mg "value_at" s_value_at ["polynomial", "n"] := df_mk X G a_value_at l_value_at c_value_at k_value_at fun _ _ _ _ _ _ us hl => match us, hl with | [_, _], _ => rfl
  let D_added : Df K mg "added" s_added ["first", "second"] := df_mk X G a_added l_added c_added k_added fun _ _ _ _ _ _ us hl => match us, hl with | [_, _], _ => rfl
  let D_multiplied : Df K mg "multiplied" s_multiplied ["first", "second"] := df_mk X G a_multiplied l_multiplied c_multiplied k_multiplied fun _ _ _ _ _ _ us hl => match us, hl with | [_, _], _ => rfl
  let D_falling : Df K mg "falling" s_falling ["start", "many"] := df_mk X G a_falling l_falling c_falling k_falling fun _ _ _ _ _ _ us hl => match us, hl with | [_, _], _ => rfl
  let D_without_last_zeros : Df K mg "without_last_zeros" s_without_last_zeros ["coefficients"] := df_mk X G a_without_last_zeros l_without_last_zeros c_without_last_zeros k_without_last_zeros fun _ _ _ _ _ _ us hl => match us, hl with | [_], _ => rfl
  let D_law_tape : Df K mg "_law_tape" s_law_tape ["script"] := df_mk X G a_law_tape l_law_tape c_law_tape k_law_tape fun _ _ _ _ _ _ us hl => match us, hl with | [_], _ => rfl
  let D_law_draw : Df K mg "_law_draw" s_law_draw ["tape", "many"] := df_mk X G a_law_draw l_law_draw c_law_draw k_law_draw fun _ _ _ _ _ _ us hl => match us, hl with | [_, _], _ => rfl
  let D_law_trimmed : Df K mg "_law_trimmed" s_law_trimmed ["numbers"] := df_mk X G a_law_trimmed l_law_trimmed c_law_trimmed k_law_trimmed fun _ _ _ _ _ _ us hl => match us, hl with | [_], _ => rfl
  let D_law_plus : Df K mg "_law_plus" s_law_plus ["first", "second"] := df_mk X G a_law_plus l_law_plus c_law_plus k_law_plus fun _ _ _ _ _ _ us hl => match us, hl with | [_, _], _ => rfl
  let D_law_times : Df K mg "_law_times" s_law_times ["first", "second"] := df_mk X G a_law_times l_law_times c_law_times k_law_times fun _ _ _ _ _ _ us hl => match us, hl with | [_, _], _ => rfl
  let D_law_value : Df K mg "_law_value" s_law_value ["polynomial", "n"] := df_mk X G a_law_value l_law_value c_law_value k_law_value fun _ _ _ _ _ _ us hl => match us, hl with | [_, _], _ => rfl
  let D_law_falling : Df K mg "_law_falling" s_law_falling ["start", "many"] := df_mk X G a_law_falling l_law_falling c_law_falling k_law_falling fun _ _ _ _ _ _ us hl => match us, hl with | [_, _], _ => rfl
  let D_law_polynomial : Df K mg "_law_polynomial" s_law_polynomial ["tape", "most"] := df_mk X G a_law_polynomial l_law_polynomial c_law_polynomial k_law_polynomial fun _ _ _ _ _ _ us hl => match us, hl with | [_, _], _ => rfl
  let D_law_wholes : Df K mg "_law_wholes" s_law_wholes ["told"] := df_mk X G a_law_wholes l_law_wholes c_law_wholes k_law_wholes fun _ _ _ _ _ _ us hl => match us, hl with | [_], _ => rfl
  let D_law : Df K mg "law" s_law ["script"] := df_mk X G a_law l_law c_law k_law fun _ _ _ _ _ _ us hl => match us, hl with | [_], _ => rfl
  let D : Ds K mg := ⟨D_value_at, D_added, D_multiplied, D_falling, D_without_last_zeros, D_law_tape, D_law_draw, D_law_trimmed, D_law_plus, D_law_times, D_law_value, D_law_falling, D_law_polynomial, D_law_wholes, D_law⟩
  exact ⟨D.law.fd, fun s v => .of_eq rfl, fun base _ _ => ok_law D T⟩
end K28
open PySem PySem.W PyProof.Rows
set_option maxRecDepth 100000 in
set_option maxHeartbeats 0 in
theorem PySem.Challenge.cw_migraproof_k28_arithmetic_of_polynomials_holds : PySem.Challenge.rw_migraproof_k28_arithmetic_of_polynomials.Holds := by
  w_on; o_law; k_head; (case hw => w_witness2)
  k_fill
  refine L2.walk_of (l := PySem.Challenge.rw_migraproof_k28_arithmetic_of_polynomials) (n := 63) (k := 4) (x := "script") (CX := fun _ => L2.CX0) (sp := fun w => K28.spLaw _) rfl (by decide) rfl ⟨rfl, by decide, by decide⟩ (fun w h Y => PySem.W.kIn_of Y) ?F (fun _ _ a ns hl _ hS => ⟨a, ns, rfl, hS, hl, fun _ => rfl⟩) (fun _ _ _ _ _ h => h)
  case F =>
    intro w mg fa h KX G hmg
    refine' K28.all_mk KX G hmg ?a_value_at ?l_value_at ?c_value_at ?k_value_at ?a_added ?l_added ?c_added ?k_added ?a_multiplied ?l_multiplied ?c_multiplied ?k_multiplied ?a_falling ?l_falling ?c_falling ?k_falling ?a_without_last_zeros ?l_without_last_zeros ?c_without_last_zeros ?k_without_last_zeros ?a_law_tape ?l_law_tape ?c_law_tape ?k_law_tape ?a_law_draw ?l_law_draw ?c_law_draw ?k_law_draw ?a_law_trimmed ?l_law_trimmed ?c_law_trimmed ?k_law_trimmed ?a_law_plus ?l_law_plus ?c_law_plus ?k_law_plus ?a_law_times ?l_law_times ?c_law_times ?k_law_times ?a_law_value ?l_law_value ?c_law_value ?k_law_value ?a_law_falling ?l_law_falling ?c_law_falling ?k_law_falling ?a_law_polynomial ?l_law_polynomial ?c_law_polynomial ?k_law_polynomial ?a_law_wholes ?l_law_wholes ?c_law_wholes ?k_law_wholes ?a_law ?l_law ?c_law ?k_law ?z_abs ?z_bool ?z_enumerate ?z_int ?z_isinstance ?z_len ?z_list ?z_max ?z_min ?z_range ?z_reversed ?z_tuple
    (case a_value_at => k_is)
    (case l_value_at => k_is)
    (case c_value_at => k_is)
    (case k_value_at => k_is)
    (case a_added => k_is)
    (case l_added => k_is)
    (case c_added => k_is)
    (case k_added => k_is)
    (case a_multiplied => k_is)
    (case l_multiplied => k_is)
    (case c_multiplied => k_is)
    (case k_multiplied => k_is)
    (case a_falling => k_is)
    (case l_falling => k_is)
    (case c_falling => k_is)
    (case k_falling => k_is)
    (case a_without_last_zeros => k_is)
    (case l_without_last_zeros => k_is)
    (case c_without_last_zeros => k_is)
    (case k_without_last_zeros => k_is)
    (case a_law_tape => k_is)
    (case l_law_tape => k_is)
    (case c_law_tape => k_is)
    (case k_law_tape => k_is)
    (case a_law_draw => k_is)
    (case l_law_draw => k_is)
    (case c_law_draw => k_is)
    (case k_law_draw => k_is)
    (case a_law_trimmed => k_is)
    (case l_law_trimmed => k_is)
    (case c_law_trimmed => k_is)
    (case k_law_trimmed => k_is)
    (case a_law_plus => k_is)
    (case l_law_plus => k_is)
    (case c_law_plus => k_is)
    (case k_law_plus => k_is)
    (case a_law_times => k_is)
    (case l_law_times => k_is)
    (case c_law_times => k_is)
    (case k_law_times => k_is)
    (case a_law_value => k_is)
    (case l_law_value => k_is)
    (case c_law_value => k_is)
    (case k_law_value => k_is)
    (case a_law_falling => k_is)
    (case l_law_falling => k_is)
    (case c_law_falling => k_is)
    (case k_law_falling => k_is)
    (case a_law_polynomial => k_is)
    (case l_law_polynomial => k_is)
    (case c_law_polynomial => k_is)
    (case k_law_polynomial => k_is)
    (case a_law_wholes => k_is)
    (case l_law_wholes => k_is)
    (case c_law_wholes => k_is)
    (case k_law_wholes => k_is)
    (case a_law => k_is)
    (case l_law => k_is)
    (case c_law => k_is)
    (case k_law => k_is)
    (case z_abs => k_is)
    (case z_bool => k_is)
    (case z_enumerate => k_is)
    (case z_int => k_is)
    (case z_isinstance => k_is)
    (case z_len => k_is)
    (case z_list => k_is)
    (case z_max => k_is)
    (case z_min => k_is)
    (case z_range => k_is)
    (case z_reversed => k_is)
    (case z_tuple => k_is)
