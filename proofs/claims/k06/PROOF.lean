import PyProof.Rows.All
import Wide.All
import OpenK.AllK
import Wide.FinOn
import PySem.Challenge.RW_migraproof_k06_whole_similar_records
import HandS.ForMost
import HandS.Set
import HandS.SetFor
import HandS.SetKeys
import HandS.Strs
import HandS.FStr
import PyProof.Rows.SortShellAny
import HandS.IsInst
import HandS.Defaults
import HandS.Zip
import HandS.Wide
import HandS.Conv
import HandS.Flow
import HandS.Small
import KE.KDictPairs
import HandS.NoneIn
import HandS.Words
import PyProof.P3Eq
import KE.KDictZip
import HandS.DictComp
import HandS.More
import HandS.Rev
import PyProof.EnumFor
import HandS.TupAny
set_option Elab.async false
set_option linter.all false
set_option maxRecDepth 100000
set_option maxHeartbeats 8000000
namespace Tq
open PySem PySem.Spec PyProof.Rows L2

/-! ### sets of texts, with the order of their table -/
def kS (e : Int × Value) : Str := match e.2 with
  | .str x _ => x
  | _ => Str.empty
def EntS (w : World) (e : Int × Value) : Prop := ∃ x u, e = (hashStr w x, Value.str x u)
structure TabS (w : World) (ob : Obj) (ks : List Str) (es : Array (Int × Value)) (ep : Nat) (tb : SetTable) : Prop where
  ex : ob.ExactSet
  da : ob.data = .set es ep tb
  en : ∀ e ∈ es.toList, EntS w e
  pm : (es.toList.map kS).Perm ks
  nd : ks.Nodup
  bd : es.size < scanBound
  ft : tb.fits es.size = true
  rs : Ris tb.place.toList
  ld : w.params.followText "set-order" = true ∨ tb.led = true
/-- the set of texts at a holds ks, each once -/
def TSet (w : World) (h : Heap) (a : Addr) (ks : List Str) : Prop := ∃ ob es ep tb, h.get? a = some ob ∧ TabS w ob ks es ep tb

section
variable {P : Program} {w : World} {A : Around} {E : Value → Shared → Prop} {s : Shared} {h h' : Heap} {a : Addr} {ks : List Str}
theorem TSet.keep (T : TSet w h a ks) (k : ∀ o, h.get? a = some o → h'.get? a = some o) : TSet w h' a ks :=
  let ⟨ob, es, ep, tb, g, t⟩ := T
  ⟨ob, es, ep, tb, k ob g, t⟩
theorem TSet.perm {ls : List Str} (T : TSet w h a ks) (p : ks.Perm ls) : TSet w h a ls :=
  let ⟨ob, es, ep, tb, g, t⟩ := T
  ⟨ob, es, ep, tb, g, ⟨t.ex, t.da, t.en, t.pm.trans p, p.nodup_iff.mp t.nd, t.bd, t.ft, t.rs, t.ld⟩⟩
theorem ent_is {e : Int × Value} (g : EntS w e) (k : Str) : (strKind P w).is k e.2 = true ↔ kS e = k := by
  obtain ⟨x, u, rfl⟩ := g
  show ((x == k) = true) ↔ x = k
  exact beq_iff_eq
theorem ents_of {l : List (Int × Value)} (g : ∀ e ∈ l, EntS w e) : ElemsOf (strKind P w) l := by
  intro e he
  obtain ⟨x, u, rfl⟩ := g e he
  exact ⟨⟨x, strKind_is P w x u, rfl⟩, rfl⟩
theorem mem_ents {l : List (Int × Value)} (g : ∀ e ∈ l, EntS w e) (k : Str) : k ∈ l.map kS ↔ ∃ e ∈ l, (strKind P w).is k e.2 = true := by
  constructor
  · intro m
    obtain ⟨e, he, q⟩ := List.mem_map.mp m
    exact ⟨e, he, (ent_is (g e he) k).mpr q⟩
  · rintro ⟨e, he, q⟩
    exact List.mem_map.mpr ⟨e, he, (ent_is (g e he) k).mp q⟩
theorem TabS.len {ob : Obj} {es : Array (Int × Value)} {ep : Nat} {tb : SetTable} (t : TabS w ob ks es ep tb) : es.size = ks.length := by
  have e := t.pm.length_eq
  simpa using e
theorem TSet.setOf (T : TSet w h a ks) : h.SetOf (strKind P w) a (fun k => decide (k ∈ ks)) ks.length := by
  obtain ⟨ob, es, ep, tb, g, t⟩ := T
  refine ⟨ob, es, ep, tb, g, t.ex, t.da, ents_of t.en, ?_, t.bd, t.ft, t.len⟩
  intro k
  rw [decide_eq_true_eq, ← t.pm.mem_iff]
  exact mem_ents t.en k

theorem put_get {ob : Obj} {es es' : Array (Int × Value)} {ep : Nat} {tb tb' : SetTable} (g : h.get? a = some ob) (d : ob.data = .set es ep tb) :
    (h.update a (Obj.putSet es' tb')).get? a = some { ob with data := .set es' (ep + 1) tb' } := by
  have z := Heap.get?_update_self (Obj.putSet es' tb') g (by rw [putSet_of es' tb' d]; rfl)
  rwa [putSet_of es' tb' d] at z

/-- the end of an addition: laid, and perhaps laid anew -/
theorem tail_laid {G : Bool → Sem Unit} (hG : ∀ (b : Bool) (s₁ : Shared) (Q' : Unit → Shared → Prop), Q' () s₁ → wpAny (model P w) A (G b) Q' E s₁)
    {ob : Obj} {es0 : Array (Int × Value)} {ep : Nat} {tb0 : SetTable} (g : s.heap.get? a = some ob) (x : ob.ExactSet) (d : ob.data = .set es0 ep tb0)
    {es : Array (Int × Value)} {tb : SetTable} (en : ∀ e ∈ es.toList, EntS w e) (pm : (es.toList.map kS).Perm ks) (nd : ks.Nodup) (bd : es.size < scanBound)
    (ft : tb.fits es.size = true) (rs : Ris tb.place.toList) (ld : w.params.followText "set-order" = true ∨ tb.led = true) {wd : Bool} {R : Option Bool → Shared → Prop}
    (hR : ∀ h', Heap.SameBut a s.heap h' → TSet w h' a ks → R (some true) { s with heap := h' }) :
    wpAny (model P w) A (do
      storeSet a es tb
      if (!wd && tb.tooFull) = true then do
        G (relayAll tb es (SetTable.grown es.size)).2.2
        storeSet a (relayAll tb es (SetTable.grown es.size)).1 (relayAll tb es (SetTable.grown es.size)).2.1
        pure (some true)
      else pure (some true)) R E s := by
  refine wpAny_bind (wpAny_storeSet_of g d ?_ (fits_of_scanBound bd))
  have g1 := put_get (es' := es) (tb' := tb) g d
  have b1 := Heap.SameBut.update s.heap a (Obj.putSet es tb)
  by_cases full : (!wd && tb.tooFull) = true
  · rw [if_pos full]
    have f1 := relayAll_perm tb es (SetTable.grown es.size)
    have f2 := relayAll_fits tb es (SetTable.grown es.size)
    have f3 := relayAll_ris tb es (SetTable.grown es.size)
    have f4 := relayAll_led tb es (SetTable.grown es.size)
    generalize relayAll tb es (SetTable.grown es.size) = Z at f1 f2 f3 f4 ⊢
    rcases Z with ⟨es2, tb2, gv⟩
    have z2 : es2.size = es.size := by simpa using f1.length_eq
    have bd2 : es2.size < scanBound := by omega
    refine wpAny_bind (hG _ _ _ (wpAny_bind (wpAny_storeSet_of g1 rfl ?_ (fits_of_scanBound bd2))))
    have g2 := put_get (es' := es2) (tb' := tb2) g1 rfl
    refine wpAny_pure (hR _ (b1.trans (Heap.SameBut.update _ a _)) ⟨_, es2, _, tb2, g2, x, rfl, ?_, (f1.map kS).trans pm, nd, bd2, f2, f3, ?_⟩)
    · intro e he
      exact en e (f1.mem_iff.mp he)
    · rcases ld with l | l
      · exact Or.inl l
      · exact Or.inr (f4.trans l)
  · rw [if_neg full]
    exact wpAny_pure (hR _ b1 ⟨_, es, _, tb, g1, x, rfl, en, pm, nd, bd, ft, rs, ld⟩)

theorem gave_way {b : Bool} {s₁ : Shared} {Q' : Unit → Shared → Prop} (q : Q' () s₁) : wpAny (model P w) A (match b with | true => rule "set.scan.the-table-gave-way" | false => pure ()) Q' E s₁ := by
  cases b
  · exact wpAny_pure q
  · exact wpAny_rule q

/-- a text is added by its hash -/
theorem add_hashed {x : Str} {u : Tok} {Q : Bool → Shared → Prop} (T : TSet w s.heap a ks) (room : ks.length + 1 < scanBound)
    (hQ : ∀ h', Heap.SameBut a s.heap h' → TSet w h' a (if x ∈ ks then ks else ks ++ [x]) → Q (!decide (x ∈ ks)) { s with heap := h' }) :
    wpAny (model P w) A (setAddHashed a (.str x u) ((strKind P w).hash x)) Q E s := by
  obtain ⟨ob, es, ep, tb, g, t⟩ := T
  have ln := t.len
  have hk : (strKind P w).is x (.str x u) = true := strKind_is P w x u
  have sc : (Value.str x u).scannable = true := rfl
  have el : ElemsOf (strKind P w) es.toList := ents_of t.en
  unfold setAddHashed setAddHashedIn
  refine wpAny_holding (wpAny_bind (wpAny_setState_of g t.da t.ft ?_))
  dsimp only
  rw [byScan_of sc t.bd el, if_pos rfl]
  unfold setAddByScan
  refine wpAny_bind (wpAny_bind (wpAny_rule (wpAny_bind (wpAny_setScan_of hk g t.da t.ft el ?_))))
  cases fi : List.findIdx? (fun e => (strKind P w).is x e.2) es.toList with
  | some j =>
    obtain ⟨jl, jp, _⟩ := List.findIdx?_eq_some_iff_getElem.mp fi
    have mx : x ∈ ks := t.pm.mem_iff.mp ((mem_ents (P := P) t.en x).mpr ⟨_, List.getElem_mem jl, jp⟩)
    have q := hQ s.heap (Heap.SameBut.refl a s.heap) ⟨ob, es, ep, tb, g, by rw [if_pos mx]; exact t⟩
    rw [decide_eq_true mx] at q
    exact wpAny_pure (wpAny_pure q)
  | none =>
    have nm : x ∉ es.toList.map kS := by
      intro m
      obtain ⟨e, he, q⟩ := (mem_ents (P := P) t.en x).mp m
      have c := List.findIdx?_eq_none_iff.mp fi e he
      simp [q] at c
    have nx : x ∉ ks := fun m => nm (t.pm.mem_iff.mpr m)
    have l1 := layNew_perm tb es ((strKind P w).hash x) (.str x u)
    have l2 := layNew_fits tb es ((strKind P w).hash x) (.str x u)
    have l3 := layNew_ris tb es ((strKind P w).hash x) (.str x u) t.rs
    have l4 := layNew_led tb es ((strKind P w).hash x) (.str x u)
    dsimp only
    generalize layNew tb es ((strKind P w).hash x) (.str x u) = Z at l1 l2 l3 l4 ⊢
    rcases Z with ⟨es1, tb1, wd, gv⟩
    dsimp only at l1 l2 l3 l4 ⊢
    rw [Array.toList_push] at l1
    have en1 : ∀ e ∈ es1.toList, EntS w e := by
      intro e he
      rcases List.mem_append.mp (l1.mem_iff.mp he) with m | m
      · exact t.en e m
      · rw [List.mem_singleton.mp m]
        exact ⟨x, u, rfl⟩
    have pm1 : (es1.toList.map kS).Perm (ks ++ [x]) := by
      refine (l1.map kS).trans ?_
      rw [List.map_append]
      exact t.pm.append_right [x]
    have nd1 : (ks ++ [x]).Nodup := by
      rw [List.nodup_append]
      exact ⟨t.nd, by simp, fun y hy z hz e => nx (by rw [List.mem_singleton.mp hz] at e; exact e ▸ hy)⟩
    have z1 : es1.size = ks.length + 1 := by
      have := pm1.length_eq
      simpa using this
    have bd1 : es1.size < scanBound := by omega
    have ld1 : w.params.followText "set-order" = true ∨ tb1.led = true := by
      rcases t.ld with l | l
      · exact Or.inl l
      · exact Or.inr (l4.trans l)
    have done : ∀ h', Heap.SameBut a s.heap h' → TSet w h' a (ks ++ [x]) → Q true { s with heap := h' } := by
      intro h' b T'
      have q := hQ h' b (by rw [if_neg nx]; exact T')
      rwa [decide_eq_false nx] at q
    refine wpAny_bind (gave_way ?_)
    split
    · refine wpAny_bind ?_
      rw [hashByValue_scannable 8 sc]
      refine wpAny_pure (tail_laid (fun b s₁ Q' q => gave_way q) g t.ex t.da en1 pm1 nd1 bd1 ?_ ?_ ?_ fun h' b T' => ?_)
      · first | (split <;> first | exact l2 | exact SetTable.fits_plain_off l2) | exact l2
      · first | (split <;> exact l3) | exact l3
      · first | (split <;> exact ld1) | exact ld1
      · dsimp only
        exact wpAny_pure (done h' b T')
    · refine wpAny_bind (wpAny_pure ?_)
      simp only [↓reduceIte]
      refine tail_laid (fun b s₁ Q' q => gave_way q) g t.ex t.da en1 pm1 nd1 bd1 l2 l3 ld1 fun h' b T' => ?_
      dsimp only
      exact wpAny_pure (done h' b T')
end

/-! ### set(t), set(l) of texts -/
def step1 (ks : List Str) (x : Str) : List Str := if x ∈ ks then ks else ks ++ [x]
/-- the texts, each once, by their first places -/
def once (xs : List Str) : List Str := xs.foldl step1 []
theorem once_snoc (xs : List Str) (x : Str) : once (xs ++ [x]) = step1 (once xs) x := by
  unfold once
  rw [List.foldl_append]
  rfl
theorem step1_mem (ks : List Str) (x y : Str) : y ∈ step1 ks x ↔ y ∈ ks ∨ y = x := by
  unfold step1
  split
  · rename_i h
    constructor
    · exact Or.inl
    · rintro (h2 | h2)
      · exact h2
      · exact h2 ▸ h
  · simp
theorem step1_nd {ks : List Str} (x : Str) (h : ks.Nodup) : (step1 ks x).Nodup := by
  unfold step1
  split
  · exact h
  · rename_i nx
    rw [List.nodup_append]
    exact ⟨h, by simp, fun y hy z hz e => nx (by rw [List.mem_singleton.mp hz] at e; exact e ▸ hy)⟩
theorem step1_len (ks : List Str) (x : Str) : (step1 ks x).length ≤ ks.length + 1 := by
  unfold step1
  split <;> simp
theorem fold_mem (xs : List Str) : ∀ (ks : List Str) (y : Str), y ∈ xs.foldl step1 ks ↔ y ∈ ks ∨ y ∈ xs := by
  induction xs with
  | nil => intro ks y; simp
  | cons x r ih =>
    intro ks y
    rw [List.foldl_cons, ih, step1_mem, List.mem_cons, or_assoc]
theorem once_mem (xs : List Str) (y : Str) : y ∈ once xs ↔ y ∈ xs := by
  unfold once
  rw [fold_mem]
  simp
theorem fold_nd (xs : List Str) : ∀ ks : List Str, ks.Nodup → (xs.foldl step1 ks).Nodup := by
  induction xs with
  | nil => intro ks h; exact h
  | cons x r ih => intro ks h; exact ih _ (step1_nd x h)
theorem once_nd (xs : List Str) : (once xs).Nodup := fold_nd xs [] List.nodup_nil
theorem fold_len (xs : List Str) : ∀ ks : List Str, (xs.foldl step1 ks).length ≤ ks.length + xs.length := by
  induction xs with
  | nil => intro ks; simp
  | cons x r ih =>
    intro ks
    have a := ih (step1 ks x)
    have b := step1_len ks x
    rw [List.foldl_cons, List.length_cons]
    omega
theorem once_len (xs : List Str) : (once xs).length ≤ xs.length := by
  have := fold_len xs []
  simpa [once] using this
theorem once_take {xs : List Str} {i : Nat} {x : Str} (h : xs[i]? = some x) : once (xs.take (i + 1)) = step1 (once (xs.take i)) x := by
  rw [List.take_add_one, h]
  exact once_snoc _ _

section
variable {P : Program} {w : World} {A : Around} {E : Value → Shared → Prop} {s : Shared}
theorem fill_loop {I : Addr} {fp wr : List Addr} {G : Array GenState → Array GenState → Prop} {n : Nat} {Pv : Nat → Value → Prop} {St : Nat → Shared → Prop} {R : Result → Shared → Prop}
    (W : WalksS P w A.in1 I fp wr G n Pv St) (S : Addr) (hS : S ∉ fp) (xs : List Str) (hn : n = xs.length) (hb : xs.length + 1 < scanBound) (hv : ∀ i v, Pv i v → ∃ x u, xs[i]? = some x ∧ v = .str x u)
    (fin : ∀ s', Moved (S :: wr) G s s' → TSet w s'.heap S (once xs) → R (.ok (.ret .none)) s') :
    ∀ (k i : Nat) (t : Shared), n - i = k → i ≤ n → St i t → TSet w t.heap S (once (xs.take i)) → Moved (S :: wr) G s t →
      codeAny (model P w) A (.builtin "set.update.loop" ⟨[.ref S, .ref I], []⟩) R t := by
  have hw : S ∉ wr := fun m => hS (W.sub _ m)
  have up : ∀ b ∈ wr, b ∈ S :: wr := fun b m => List.mem_cons_of_mem _ m
  intro k
  induction k with
  | zero =>
    intro i t e1 e2 st T mv
    have ei : i = xs.length := by omega
    refine codeAny_builtin F.entry_set_update_loop ?_
    rw [Around.under_plainId F.plain_set_update_loop _]
    show wpAny _ A.in1 (pyNext (.ref I) >>= _) _ _ t
    refine wpAny_bind (W.done t _ _ (by rw [← hn] at ei; rw [← ei]; exact st) fun t' m => ?_)
    show wpAny _ A.in1 (ret Value.none) _ _ t'
    have T' : TSet w t'.heap S (once (xs.take i)) := T.keep fun o g => m.heap S o hw g
    rw [ei, List.take_length] at T'
    exact wpAny_pure (fin t' (mv.trans W.gtrans (m.mono up)) T')
  | succ k ih =>
    intro i t e1 e2 st T mv
    have lt : i < n := by omega
    refine codeAny_builtin F.entry_set_update_loop ?_
    rw [Around.under_plainId F.plain_set_update_loop _]
    show wpAny _ A.in1 (pyNext (.ref I) >>= _) _ _ t
    refine wpAny_bind (W.item i t _ _ lt st fun v t' pv st' m => ?_)
    obtain ⟨x, u, hx, rfl⟩ := hv i v pv
    have T' : TSet w t'.heap S (once (xs.take i)) := T.keep fun o g => m.heap S o hw g
    have ln : (once (xs.take i)).length ≤ xs.length := Nat.le_trans (once_len _) (by rw [List.length_take]; exact Nat.min_le_right _ _)
    show wpAny _ A.in1 (holding [Value.str x u] (setAdd S (.str x u)) >>= _) _ _ t'
    refine wpAny_bind (wpAny_holding ?_)
    unfold setAdd
    refine wpAny_holding (wpAny_bind ((strKind P w).pyHash (k := x) (strKind_is _ _ _ _) ?_))
    refine add_hashed (s := { t' with toks := t'.toks + 1 }) T' (by omega) fun h' sb T2 => ?_
    have T3 : TSet w h' S (once (xs.take (i + 1))) := by
      rw [once_take hx]
      exact T2
    refine wpAny_pure ⟨plainId_quiet F.plain_set_update_loop _, ih (i + 1) _ (by omega) lt (W.frame _ t' _ _ st' (Nat.le_succ _) fun b m' o g => ?_) T3 ?_⟩
    · rw [sb.2 b fun z : b = S => hS (z ▸ m')]
      exact g
    · refine mv.trans W.gtrans ((m.mono up).then_heap (Nat.le_succ _) fun b o nb g => ?_)
      rw [sb.2 b fun z : b = S => nb (z ▸ List.mem_cons_self)]
      exact g
end

section
variable {P : Program} {w : World} {A : Around} {E : Value → Shared → Prop} {s : Shared}
/-- the object of a new set -/
abbrev noSet (w : World) : Obj := { cls := .type "set", dict := none, data := .set #[] 0 (.fresh 0 0 (!w.params.followText "set-order")) }
theorem noSet_ok {h : Heap} {a : Addr} (g : h.get? a = some (noSet w)) : TSet w h a [] := by
  refine ⟨noSet w, #[], 0, _, g, ⟨⟨rfl, rfl, rfl⟩, rfl, ?_, .nil, List.nodup_nil, by decide, rfl, List.Pairwise.nil, ?_⟩⟩
  · intro e m
    simp at m
  · show _ ∨ (!w.params.followText "set-order") = true
    cases w.params.followText "set-order" <;> simp
theorem strs_get : ∀ {us : List Value} {xs : List Str}, StrsAre us xs → ∀ (i : Nat) (v : Value), us[i]? = some v → ∃ x u, xs[i]? = some x ∧ v = .str x u
  | _, _, .nil, _, _, h => by simp at h
  | _, _, .cons x u _, 0, v, h => by
    simp at h
    exact ⟨x, u, rfl, h.symm⟩
  | _, _, .cons _ _ r, i + 1, v, h => strs_get r i v (by simpa using h)
/-- what set(..) leaves -/
def SetMade (w : World) (s : Shared) (xs : List Str) (z : Shared) : Prop := ∃ h' tk, z = { s with heap := h', toks := tk } ∧ TSet w h' s.heap.objs.size (once xs) ∧ ∀ b o, s.heap.get? b = some o → h'.get? b = some o


end
end Tq
namespace Tq
open PySem PySem.Spec PyProof.Rows L2
section
variable {P : Program} {w : World} {A : Around} {E : Value → Shared → Prop} {s : Shared}
set_option maxHeartbeats 8000000 in
theorem set_tup {l : Addr} {vs : Array Value} {xs : List Str} {Q : Value → Shared → Prop} (calm : A.handled = none) (hl : s.heap.IsTuple l vs) (sa : StrsAre vs.toList xs) (few : xs.length + 1 < scanBound)
    (k : ∀ z, SetMade w s xs z → Q (.ref s.heap.objs.size) z) : wpAny (model P w) A (call (.type "set") [.ref l]) Q E s := by
  have size : vs.size = xs.length := by rw [← StrsAre.len_eq sa, Array.length_toList]
  obtain ⟨c0, t0, mro⟩ := F.called_set.mro
  have f1 := F.called_set.made; have f2 := F.called_set.sub
  refine wpAny_call (codeAny_of_tree ?_)
  show wpAny _ _ (callAny (.type "set") _) _ _ _
  refine wpAny_pure ⟨Code.quiet_builtin _ (by decide +kernel), codeAny_builtin F.entry_type_call ?_⟩
  rw [Around.under_plain (weight_type_call_type "set" [.ref l] []) rfl]
  have f3 := F.called_set.notType; have f4 := F.called_set.canCreate; have f5 := F.typeCall_set_1 (.ref l)
  repeat (any_goals (first | assumption | wp_step))
  refine codeAny_mono (code_set_led1 (.ref l) (E := E) (Q₁ := fun o z => o = .ref s.heap.objs.size ∧ z = { s with heap := s.heap.push (noSet w) }) ⟨rfl, rfl⟩) fun r z hr => ?_
  match r, hr with
  | .error e, hr => exact hr
  | .ok (.ret o), hr =>
    obtain ⟨rfl, rfl⟩ := hr
    have g0 : (s.heap.push (noSet w)).get? s.heap.objs.size = some (noSet w) := Heap.get?_push_size _ rfl
    have ty : Shared.TypeIs { s with heap := s.heap.push (noSet w) } (.ref s.heap.objs.size) "set" := ⟨_, g0, rfl⟩
    have f6 := F.called_set.init.lookup; have f7 := F.called_set.init.bind (.ref s.heap.objs.size)
    repeat (any_goals (first | assumption | wp_step))
    refine codeAny_mono (codeAny_call_builtin (R := wants (fun r z => r = .none ∧ SetMade w s xs z) E) F.called_set.init.plain F.entry_set_init (check_set_init_1 ty ?_)) fun r z hr => ?_
    · obtain ⟨ob, gl, cl, n, dl⟩ := hl
      obtain ⟨_, dd, _, sl⟩ := ob
      simp only at cl dl
      subst cl; subst dl
      have gl' : (s.heap.push (noSet w)).get? l = some { cls := .type "tuple", dict := dd, data := .seq vs n, slots := sl } := Heap.get?_push_of_some _ gl
      have p1 := F.sub_tuple_set; have p2 := F.sub_tuple_frozenset
      have p3 : (Value.type "tuple" == Value.type "dict") = false := by decide
      have hl' : (s.heap.push (noSet w)).IsTuple l vs := ⟨_, gl', rfl, n, rfl⟩
      unfold Builtin.«set.__init__» noKeywords Builtin.Frozenset.updateFrom
      generalize hPI : pyIter = PI
      wp_walk
      subst hPI
      refine wpAny_pyIter_tuple hl' (wpAny_bind (wpAny_runValue ?_))
      have ll : l < s.heap.objs.size := Heap.lt_size gl
      have zz : (s.heap.push (noSet w)).objs.size = s.heap.objs.size + 1 := Heap.size_push ..
      have ne : l ≠ (s.heap.push (noSet w)).objs.size := by
        rw [zz]; exact Nat.ne_of_lt (Nat.lt_succ_of_lt ll)
      have nf : s.heap.objs.size ∉ [(s.heap.push (noSet w)).objs.size, l] := by
        rw [zz]
        simp only [List.mem_cons, List.not_mem_nil, or_false, not_or]
        exact ⟨Nat.ne_of_lt (Nat.lt_succ_self _), Nat.ne_of_gt ll⟩
      have val : ∀ (i : Nat) (v : Value), vs[i]? = some v → ∃ x u, xs[i]? = some x ∧ v = .str x u := fun i v e => strs_get sa i v (by rw [Array.getElem?_toList]; exact e)
      refine fill_loop ((Walks.tuple (by simp [calm]) _ l ne vs).toS) s.heap.objs.size nf xs size few val ?fin (vs.size - 0) 0 _ (by omega) (Nat.zero_le _) ⟨⟨_, Heap.get?_push_size _ rfl, rfl, rfl⟩, (hl'.push _)⟩ ?st (Moved.mk (fun _ _ _ e => e) rfl rfl rfl (Nat.le_refl _))
      case st =>
        exact noSet_ok (Heap.get?_push_of_some _ g0)
      case fin =>
        intro z m T
        obtain ⟨h', gg, dr, tk, os⟩ := z
        obtain rfl : gg = s.gens := m.gens
        obtain rfl : dr = s.drawn := m.drawn
        obtain rfl : os = s.os := m.os
        show wpAny _ _ _ _ _ _
        refine wpAny_pure ?_
        show wpAny _ _ (ret Value.none) _ _ _
        refine wpAny_pure ⟨rfl, h', tk, rfl, T, fun b o e => ?_⟩
        have lb : b < s.heap.objs.size := Heap.lt_size e
        refine m.heap b o ?_ (Heap.get?_push_of_some _ (Heap.get?_push_of_some _ e))
        rw [zz]
        simp only [List.mem_cons, List.not_mem_nil, or_false, not_or]
        exact ⟨Nat.ne_of_lt lb, Nat.ne_of_lt (Nat.lt_succ_of_lt lb)⟩
    · match r, hr with
      | .error e, hr => exact hr
      | .ok (.ret o), hr =>
        obtain ⟨rfl, sm⟩ := hr
        repeat (any_goals (first | assumption | wp_step))
        exact k _ sm
      | .ok .next, hr => exact hr.elim
      | .ok .brk, hr => exact hr.elim
      | .ok .cont, hr => exact hr.elim
  | .ok .next, hr => exact hr.elim
  | .ok .brk, hr => exact hr.elim
  | .ok .cont, hr => exact hr.elim

end
end Tq
namespace Tq
open PySem PySem.Spec PyProof.Rows L2
section
variable {P : Program} {w : World} {A : Around} {E : Value → Shared → Prop} {s : Shared} {a : Addr}
theorem strs_of_ents : ∀ l : List Value, (∀ v ∈ l, ∃ x u, v = Value.str x u) → StrsAre l (l.map fun v => kS (0, v))
  | [], _ => .nil
  | v :: l, h => by
    obtain ⟨x, u, rfl⟩ := h v List.mem_cons_self
    exact .cons x u (strs_of_ents l fun y m => h y (List.mem_cons_of_mem _ m))
/-- what sorted(..) of a set of texts leaves -/
theorem sorted_txt {ks : List Str} {Q : Value → Shared → Prop} (T : TSet w s.heap a ks) (calm : A.handled = none)
    (k : ∀ z p (out : Array Value) (c : Nat) (ys : List Str), (∀ b o, s.heap.get? b = some o → z.heap.get? b = some o) → z.gens = s.gens → z.os = s.os → s.heap.objs.size ≤ p →
      z.heap.get? p = some (seqObj "list" out c) → StrsAre out.toList ys → ys.Perm ks → sortedS ys = true → Q (.ref p) z) :
    wpAny (model P w) A (call (.builtin "sorted") [.ref a]) Q E s := by
  obtain ⟨ob, es, ep, tb, g, t⟩ := T
  have z0 : es.size ≤ sizeLine := Nat.le_trans (Nat.le_of_lt t.bd) (by decide)
  refine Calls.call_function_entry kind_sorted plain_sorted entry_sorted (args_sorted1 _) ?_
  unfold Builtin.«sorted»
  refine wpAny_bind (m := checkCount "sorted" 1 1 _) (wpAny_pure (wpAny_bind (collect_set (A := A.in1) calm ⟨ob, g, t.ex.1, t.da⟩ t.ft t.bd t.rs t.ld fun z1 vs k1 k2 k3 k4 pm => ?_)))
  have vl : vs.length ≤ sizeLine := by
    rw [pm.length_eq, List.length_map, Array.length_toList]
    exact z0
  have sa : StrsAre vs (vs.map fun v => kS (0, v)) := strs_of_ents vs fun v m => by
    obtain ⟨e, he, rfl⟩ := List.mem_map.mp (pm.mem_iff.mp m)
    obtain ⟨x, u, rfl⟩ := t.en e he
    exact ⟨x, u, rfl⟩
  have pk : (vs.map fun v => kS (0, v)).Perm ks := by
    refine (pm.map _).trans ?_
    rw [List.map_map]
    exact t.pm
  refine wpAny_bind (wpAny_newList ?_ vl)
  have gl : (z1.heap.push (seqObj "list" vs.toArray 0)).get? z1.heap.objs.size = some (seqObj "list" vs.toArray 0) := Heap.get?_push_size _ rfl
  refine wpAny_bind (wpAny_holding (wpAny_call_entry slot_list_sort ⟨_, gl, rfl⟩ entry_list_sort
    (list_sort_treeKAny strKind_oneLt gl sa.keysOf (fun v₁ v₂ r e => keyKind_strs (e ▸ sa)) vl fun st hp hs => ⟨_, rfl, ?_⟩) (args_list_sort _)))
  obtain ⟨ys, q1, q2, q3⟩ := sorted_out_str sa hp hs
  obtain ⟨c, hc⟩ := sortedHeap_at (vs := vs) (out := (arrOf st).map (·.2)) gl
  refine wpAny_pure ⟨_, rfl, k _ z1.heap.objs.size _ c ys (fun b o e => ?_) k3 k4 k2 hc q1 (q2.trans pk) q3⟩
  have e1 := k1 b o e
  have lt := Heap.lt_size e1
  show (sortedHeap (z1.heap.push (seqObj "list" vs.toArray 0)) z1.heap.objs.size vs _).get? b = some o
  rw [sortedHeap_old (Nat.ne_of_lt lt) (by rw [size_push']; exact Nat.lt_succ_of_lt lt)]
  exact Heap.get?_push_of_some _ e1
end

/-! ### over the layer -/
/-- the set of texts at a, by the layer -/
def TSO (w : World) (a : Addr) (ks : List Str) : HO := .ext fun h => TSet w h a ks
section
variable {X : Cx}
theorem tso_new {w : World} {P : Program} {H : Hp} {h : Heap} {a : Addr} {ks : List Str} (T : TSet w h a ks) : ObjOk P w H h a (TSO w a ks) := by
  have ⟨ob, _, _, _, g, _⟩ := T
  exact ⟨T, ⟨ob, g⟩, fun _ _ p k => p.keep k⟩
theorem tso_get {pins : List (Addr × Obj)} {σ : L2.St} {H : Hp} {s : Shared} {a : Addr} {ks : List Str} (I : Inv X pins σ H s) (g : H a = some (TSO X.w a ks)) : TSet X.w s.heap a ks := (I.hok a _ g).1
/-- set(t), set(l) -/
def rSetT (K : PySem.W.Frag) (w : World) : List V → Hp → VK → Prop := fun vs H Q => ∃ (a : Addr) (xs : List Str), vs = [.ref a] ∧ SqT K H a (xs.map V.str) ∧ xs.length + 1 < scanBound ∧
  ∀ p, H p = none → Q (.ref p) (upd H p (TSO w p (once xs)))
theorem cr_setT (hc : X.calm = true) : CallR X (.type "set") (rSetT X.K X.w) := by
  intro pins s σ H vs us Q I r h
  obtain ⟨a, xs, rfl, hs, few, q⟩ := h
  rw [Vals.ref1 r]
  obtain ⟨its, rv, hl, _⟩ := I.tuple hs
  refine set_tup (I.ok.hd hc) hl (by simpa using rv.strs) few fun z ⟨h', tk, ez, T, kp⟩ => ?_
  subst ez
  exact ⟨.ref _, upd H s.heap.objs.size (TSO X.w s.heap.objs.size (once xs)), I.laid (t' := tk) kp (Nat.le_refl _) (tso_new T), rfl, q _ (I.hok.fresh (Nat.le_refl _))⟩
/-- sorted(set) -/
def rSortT (w : World) : List V → Hp → VK → Prop := fun vs H Q => ∃ (a : Addr) (ks : List Str), vs = [.ref a] ∧ H a = some (TSO w a ks) ∧
  ∀ (ys : List Str) (p : Addr), ys.Perm ks → sortedS ys = true → H p = none → Q (.ref p) (upd H p (.lst (ys.map V.str)))
theorem cr_sortT (hc : X.calm = true) : CallR X (.builtin "sorted") (rSortT X.w) := by
  intro pins s σ H vs us Q I r h
  obtain ⟨a, ks, rfl, g, q⟩ := h
  rw [Vals.ref1 r]
  have T := tso_get I g
  have kl : ks.length ≤ sizeLine := by
    have ⟨ob, es, ep, tb, g', t⟩ := T
    have e := t.len
    have b := t.bd
    exact Nat.le_trans (Nat.le_of_lt (by omega)) (show scanBound ≤ sizeLine by decide)
  refine sorted_txt T (I.ok.hd hc) fun z p out c ys k1 k2 k3 k4 k5 sa pm so => ?_
  have hn : H p = none := I.hok.fresh k4
  have yl : (ys.map V.str).length ≤ sizeLine := by
    rw [List.length_map, pm.length_eq]
    exact kl
  have J : Inv X pins σ (upd H p (.lst (ys.map V.str))) { s with heap := z.heap, gens := z.gens, drawn := z.drawn, toks := z.toks } := by
    refine I.call (ch := []) (Un.laid k1 k4 hn) (I.hok.laid k1 k4 ⟨yl, out.toList, c, vals_of_strs sa, ?_⟩) ?_ (fun _ m => nomatch m)
    · rw [Array.toArray_toList]
      exact k5
    · rw [k2]
      exact I.bare
  have ez : z = { s with heap := z.heap, gens := z.gens, drawn := z.drawn, toks := z.toks } := by
    cases z; cases s; cases k3
    rfl
  rw [ez]
  exact ⟨.ref p, _, J, rfl, q ys p pm so hn⟩
/-- x in s, x not in s -/
def rInT (w : World) (neg : Bool) : R2 := fun x y H Q => ∃ (z : Str) (a : Addr) (ks : List Str), x = .str z ∧ y = .ref a ∧ H a = some (TSO w a ks) ∧ Q (.bl (if neg then !decide (z ∈ ks) else decide (z ∈ ks))) H
theorem op_inT : OpR X (compareOp .In) (rInT X.w false) := by
  intro pins s σ H x y v u Q I rx ry h
  obtain ⟨z, a, ks, rfl, rfl, g, q⟩ := h
  obtain ⟨t, rfl⟩ := rx
  cases ry
  exact wpAny_inSet_of (knd := strKind X.prog X.w) (k := z) (strKind_is _ _ _ _) rfl (tso_get I g).setOf ⟨.bl _, H, I.tok _, rfl, q⟩
theorem op_notInT : OpR X (compareOp .NotIn) (rInT X.w true) := by
  intro pins s σ H x y v u Q I rx ry h
  obtain ⟨z, a, ks, rfl, rfl, g, q⟩ := h
  obtain ⟨t, rfl⟩ := rx
  cases ry
  exact wpAny_notInSet_of (knd := strKind X.prog X.w) (k := z) (strKind_is _ _ _ _) rfl (tso_get I g).setOf ⟨.bl _, H, I.tok _, rfl, q⟩
end
end Tq
namespace Tq
open PySem PySem.Spec PyProof.Rows L2
/-! ### text * int -/
section
variable {X : Cx}
theorem mulOk {z : Str} {n : Int} (h1 : z.length ≤ 1000) (h2 : -1000 ≤ n) (h3 : n ≤ 1000) : MulOk z n := by
  refine ⟨?_, ?_, ?_⟩
  · have a : ¬ n < -(2 ^ 63 : Int) := by omega
    have b : ¬ n ≥ 2 ^ 63 := by omega
    rw [decide_eq_false a, decide_eq_false b]; rfl
  · intro a _ c
    have e : (9223372036854 : Int) ≤ (2 ^ 63 - 1) / n := by
      refine (Int.le_ediv_iff_mul_le (by omega)).mpr ?_
      omega
    omega
  · intro a _
    have e : z.length * n.toNat ≤ 1000 * 1000 := Nat.mul_le_mul h1 (by omega)
    unfold Builtin.Str.tooLong
    have l : sizeLine ≥ 1000 * 1000 := by decide
    simp only [decide_eq_false_iff_not]
    omega
def rMulS : R2 := fun x y H Q => ∃ z n, x = .str z ∧ y = .int n ∧ (z.length ≤ 1000 ∧ -1000 ≤ n ∧ n ≤ 1000) ∧ Q (.str (Txt.mul z n)) H
theorem op_mulS : OpR X (binaryOp .Mult) rMulS := by
  intro pins s σ H x y v u Q I rx ry h
  obtain ⟨z, n, rfl, rfl, ⟨h1, h2, h3⟩, q⟩ := h
  obtain ⟨t, rfl⟩ := rx
  obtain ⟨t', rfl⟩ := ry
  exact SB.mul (mulOk h1 h2 h3) fun t' k => ⟨.str _, H, I.tok _, ⟨_, rfl⟩, q⟩
end
/-! ### a def of the text -/
structure Df (K : PySem.W.Frag) (mg : Str → Option Value) (x : Str) (st : Stmt) (ps : List Str) where
  f : Addr
  fd : FuncData
  F : Fun K x x st f fd
  g : mg x = some (.ref f)
  b : Binds K fd ps []
/-- all but t stands as it stood -/
def But (t : Addr) (H H' : Hp) : Prop := ∀ b o, b ≠ t → H b = some o → H' b = some o
theorem But.trans {t : Addr} {H H1 H2 : Hp} (a : But t H H1) (b : But t H1 H2) : But t H H2 := fun c o n h => b c o n (a c o n h)
theorem But.refl (t : Addr) (H : Hp) : But t H H := fun _ _ _ h => h
theorem Same.but {t : Addr} {H H' : Hp} (a : Same H H') : But t H H' := fun c o _ h => a c o h
theorem But.upd {t : Addr} {H H' : Hp} {o : HO} (a : But t H H') : But t H (L2.upd H' t o) := fun c u n h => by
  rw [upd_ne n]
  exact a c u n h
theorem But.new {t p : Addr} {H H' : Hp} {o : HO} (a : But t H H') (n : H p = none) : But t H (L2.upd H' p o) := fun c u m h => by
  rw [upd_ne (ne_of_none h n)]
  exact a c u m h
theorem But.seq {K : PySem.W.Frag} {t : Addr} {H H' : Hp} {a : Addr} {xs : List V} (e : But t H H') (n : a ≠ t) (h : SqL K H a xs) : SqL K H' a xs := by
  rcases h with (h | ⟨o, h⟩) | h
  · exact .inl (.inl (e _ _ n h))
  · exact .inl (.inr ⟨o, e _ _ n h⟩)
  · exact .inr h
/-- the tape stands at t, its cells at a -/
def Tape (H : Hp) (t a : Addr) : Prop := ∃ (ns : List Int) (p c d : Int), a ≠ t ∧ 0 ≤ p ∧ 0 ≤ c ∧ 0 ≤ d ∧ H a = some (.lst (ns.map V.int)) ∧ H t = some (.lst [.ref a, .int p, .int c, .int d])
end Tq
namespace Tq
open PySem PySem.Spec PyProof.Rows L2
/-! ### the operators by names, and one step back from what follows -/
section
variable {X : Cx} {K : PySem.W.Frag} {H : Hp} {Q : VK} {i j : Int} {σ : L2.St} {a p : Addr} {x y v : V} {xs ys : List V}
def rAddI : R2 := rI0 fun i j => .int (i + j)
def rSubI : R2 := rI0 fun i j => .int (i - j)
def rMulI : R2 := rI CMul fun i j => .int (i * j)
def rModI : R2 := rI (fun _ j => j ≠ 0) fun i j => .int (i.fmod j)
def CDiv64 (_ j : Int) : Prop := 0 < j ∧ j < 18446744073709551616
def rDivI : R2 := rI CDiv64 fun i j => .int (i.fdiv j)
def rPowI : R2 := rI CPow fun i j => .int (i ^ j.toNat)
theorem o_add : OpR X (binaryOp .Add) rAddI := op_add
theorem o_sub : OpR X (binaryOp .Sub) rSubI := op_sub
theorem o_mul : OpR X (binaryOp .Mult) rMulI := op_mul
theorem o_mod : OpR X (binaryOp .Mod) rModI := op_modN
theorem o_div : OpR X (binaryOp .FloorDiv) rDivI := by
  intro pins s σ H x y v u Q I rx ry h
  obtain ⟨i, j, rfl, rfl, ⟨j0, j1⟩, q⟩ := h
  have q : Q (.int (i.fdiv j)) H := q
  rw [Int.fdiv_eq_ediv_of_nonneg i (Int.le_of_lt j0)] at q
  exact op_fdivW pins s σ H _ _ v u Q I rx ry ⟨i, j, rfl, rfl, wide_div (b := 64) (i := i) j0 (by omega) (by decide) (by decide), q⟩
theorem o_pow : OpR X (binaryOp .Pow) rPowI := op_pow
theorem l_add (q : Q (.int (i + j)) H) : rAddI (.int i) (.int j) H Q := ⟨i, j, rfl, rfl, q⟩
theorem l_sub (q : Q (.int (i - j)) H) : rSubI (.int i) (.int j) H Q := ⟨i, j, rfl, rfl, q⟩
theorem l_mul (c : CMul i j) (q : Q (.int (i * j)) H) : rMulI (.int i) (.int j) H Q := ⟨i, j, rfl, rfl, c, q⟩
theorem l_mod (c : j ≠ 0) (q : Q (.int (i.fmod j)) H) : rModI (.int i) (.int j) H Q := ⟨i, j, rfl, rfl, c, q⟩
theorem l_div (c : CDiv64 i j) (q : Q (.int (i.fdiv j)) H) : rDivI (.int i) (.int j) H Q := ⟨i, j, rfl, rfl, c, q⟩
theorem l_pow (c : CPow i j) (q : Q (.int (i ^ j.toNat)) H) : rPowI (.int i) (.int j) H Q := ⟨i, j, rfl, rfl, c, q⟩
def rLtI : R2 := rI0 fun i j => .bl (decide (i < j))
def rLeI : R2 := rI0 fun i j => .bl (decide (i ≤ j))
def rGtI : R2 := rI0 fun i j => .bl (decide (j < i))
def rGeI : R2 := rI0 fun i j => .bl (decide (j ≤ i))
theorem o_lt : OpR X (compareOp .Lt) rLtI := op_lt
theorem o_le : OpR X (compareOp .LtE) rLeI := op_le
theorem o_gt : OpR X (compareOp .Gt) rGtI := op_gt
theorem o_ge : OpR X (compareOp .GtE) rGeI := op_ge
theorem l_lt (q : Q (.bl (decide (i < j))) H) : rLtI (.int i) (.int j) H Q := ⟨i, j, rfl, rfl, q⟩
theorem l_le (q : Q (.bl (decide (i ≤ j))) H) : rLeI (.int i) (.int j) H Q := ⟨i, j, rfl, rfl, q⟩
theorem l_gt (q : Q (.bl (decide (j < i))) H) : rGtI (.int i) (.int j) H Q := ⟨i, j, rfl, rfl, q⟩
theorem l_ge (q : Q (.bl (decide (j ≤ i))) H) : rGeI (.int i) (.int j) H Q := ⟨i, j, rfl, rfl, q⟩
theorem l_eqI (q : Q (.bl (decide (i = j))) H) : rEq (.int i) (.int j) H Q := ⟨rfl, by rw [show decide (V.int i = V.int j) = decide (i = j) by simp]; exact q⟩
theorem l_neI (q : Q (.bl (!decide (i = j))) H) : rNe (.int i) (.int j) H Q := ⟨rfl, by rw [show decide (V.int i = V.int j) = decide (i = j) by simp]; exact q⟩
theorem l_eqS {z u : Str} (q : Q (.bl (decide (z = u))) H) : rEq (.str z) (.str u) H Q := ⟨rfl, by rw [show decide (V.str z = V.str u) = decide (z = u) by simp]; exact q⟩
theorem l_neS {z u : Str} (q : Q (.bl (!decide (z = u))) H) : rNe (.str z) (.str u) H Q := ⟨rfl, by rw [show decide (V.str z = V.str u) = decide (z = u) by simp]; exact q⟩
/-- texts -/
def rAddS' : R2 := fun x y H Q => ∃ i j, x = .str i ∧ y = .str j ∧ i.length + j.length ≤ sizeLine ∧ Q (.str (i ++ j)) H
def rLtS : R2 := fun x y H Q => ∃ i j, x = .str i ∧ y = .str j ∧ Q (.bl (decide (i.cps.toList < j.cps.toList))) H
def rLeS : R2 := fun x y H Q => ∃ i j, x = .str i ∧ y = .str j ∧ Q (.bl (!decide (j.cps.toList < i.cps.toList))) H
theorem o_addS : OpR X (binaryOp .Add) rAddS' := op_add_str
theorem o_ltS : OpR X (compareOp .Lt) rLtS := op_lt_str
theorem o_leS : OpR X (compareOp .LtE) rLeS := op_le_str
theorem l_addS {z u : Str} (c : z.length + u.length ≤ sizeLine) (q : Q (.str (z ++ u)) H) : rAddS' (.str z) (.str u) H Q := ⟨z, u, rfl, rfl, c, q⟩
theorem l_ltS {z u : Str} (q : Q (.bl (decide (z.cps.toList < u.cps.toList))) H) : rLtS (.str z) (.str u) H Q := ⟨z, u, rfl, rfl, q⟩
theorem l_leS {z u : Str} (q : Q (.bl (!decide (u.cps.toList < z.cps.toList))) H) : rLeS (.str z) (.str u) H Q := ⟨z, u, rfl, rfl, q⟩
theorem l_mulS {z : Str} {n : Int} (c : z.length ≤ 1000 ∧ -1000 ≤ n ∧ n ≤ 1000) (q : Q (.str (Txt.mul z n)) H) : rMulS (.str z) (.int n) H Q := ⟨z, n, rfl, rfl, c, q⟩
/-- calls -/
def rInt1 : List V → Hp → VK → Prop := fun xs H Q => ∃ i, xs = [.int i] ∧ Q (.int i) H
def rAbs1 : List V → Hp → VK → Prop := fun xs H Q => ∃ i, xs = [.int i] ∧ Q (.int (if i < 0 then -i else i)) H
def rMaxI : List V → Hp → VK → Prop := fun xs H Q => ∃ i j, xs = [.int i, .int j] ∧ Q (.int (if j > i then j else i)) H
def rMinI : List V → Hp → VK → Prop := fun xs H Q => ∃ i j, xs = [.int i, .int j] ∧ Q (.int (if j < i then j else i)) H
def rStrI : List V → Hp → VK → Prop := fun xs H Q => ∃ i, xs = [.int i] ∧ i.natAbs.log2 < 1920 ∧ Q (.str (toString i)) H
def rLenQ (K : PySem.W.Frag) : List V → Hp → VK → Prop := fun xs H Q => ∃ p ys, xs = [.ref p] ∧ (SqL K H p ys ∨ SqT K H p ys) ∧ Q (.int ys.length) H
def rLenT : List V → Hp → VK → Prop := fun xs H Q => ∃ z, xs = [.str z] ∧ z.length ≤ sizeLine ∧ Q (.int z.length) H
def rListQ (K : PySem.W.Frag) : List V → Hp → VK → Prop := fun xs H Q => ∃ p ys, xs = [.ref p] ∧ (SqL K H p ys ∨ SqT K H p ys) ∧ ∀ l, H l = none → Q (.ref l) (upd H l (.lst ys))
def rTupQ (K : PySem.W.Frag) : List V → Hp → VK → Prop := fun xs H Q => ∃ p ys, xs = [.ref p] ∧ ((SqL K H p ys ∧ ∀ l, H l = none → Q (.ref l) (upd H l (.tup ys))) ∨ (SqT K H p ys ∧ Q (.ref p) H))
theorem c_int : CallR X (.type "int") rInt1 := fun pins s σ H xs us Q I r h => call_int1 pins s σ H xs us Q I r (.inl h)
theorem c_abs : CallR X (.builtin "abs") rAbs1 := call_abs
theorem c_max (hc : X.calm = true) : CallR X (.builtin "max") rMaxI := call_max2 hc
theorem c_min (hc : X.calm = true) : CallR X (.builtin "min") rMinI := call_min2 hc
theorem c_str : CallR X (.type "str") rStrI := call_str_int
theorem c_len : CallR X (.builtin "len") (rLenQ X.K) := call_len_seq
theorem c_lenS : CallR X (.builtin "len") rLenT := call_len_str
theorem c_list : CallR X (.type "list") (rListQ X.K) := call_list_of
theorem c_tuple : CallR X (.type "tuple") (rTupQ X.K) := call_tuple_of
theorem l_int (q : Q (.int i) H) : rInt1 [.int i] H Q := ⟨i, rfl, q⟩
theorem l_abs (q : Q (.int (if i < 0 then -i else i)) H) : rAbs1 [.int i] H Q := ⟨i, rfl, q⟩
theorem l_max (q : Q (.int (if j > i then j else i)) H) : rMaxI [.int i, .int j] H Q := ⟨i, j, rfl, q⟩
theorem l_min (q : Q (.int (if j < i then j else i)) H) : rMinI [.int i, .int j] H Q := ⟨i, j, rfl, q⟩
theorem l_str (c : i.natAbs.log2 < 1920) (q : Q (.str (toString i)) H) : rStrI [.int i] H Q := ⟨i, rfl, c, q⟩
theorem l_lenL (h : SqL K H p ys) (q : Q (.int ys.length) H) : rLenQ K [.ref p] H Q := ⟨p, ys, rfl, .inl h, q⟩
theorem l_lenT (h : SqT K H p ys) (q : Q (.int ys.length) H) : rLenQ K [.ref p] H Q := ⟨p, ys, rfl, .inr h, q⟩
theorem l_lenS {z : Str} (h : z.length ≤ sizeLine) (q : Q (.int z.length) H) : rLenT [.str z] H Q := ⟨z, rfl, h, q⟩
theorem l_listL (h : SqL K H p ys) (q : ∀ l, H l = none → Q (.ref l) (upd H l (.lst ys))) : rListQ K [.ref p] H Q := ⟨p, ys, rfl, .inl h, q⟩
theorem l_tupL (h : SqL K H p ys) (q : ∀ l, H l = none → Q (.ref l) (upd H l (.tup ys))) : rTupQ K [.ref p] H Q := ⟨p, ys, rfl, .inl ⟨h, q⟩⟩
/-- items, stores -/
theorem l_ixL (h : SqL K H p xs) (e : atI xs i = some v) (q : Q v H) : rIxL K (.ref p) (.int i) H Q := ⟨p, xs, i, v, rfl, rfl, h, e, q⟩
theorem l_ixT (h : SqT K H p xs) (e : atI xs i = some v) (q : Q v H) : rIxT K (.ref p) (.int i) H Q := ⟨p, xs, i, v, rfl, rfl, h, e, q⟩
theorem l_ixS {z : Str} {c : Nat} (h : z.length ≤ sizeLine) (e : atI z.cps.toList i = some c) (q : Q (.str ⟨#[c]⟩) H) : rIxS (.str z) (.int i) H Q := ⟨z, i, c, rfl, rfl, h, e, q⟩
theorem l_setL {n : Nat} {R : Hp → Prop} (h : H p = some (.lst xs)) (e : ixN xs.length i = some n) (q : R (upd H p (.lst (xs.set n v)))) : rSetL (.ref p) (.int i) v H R := ⟨p, xs, i, n, rfl, rfl, h, e, q⟩
theorem l_app (h : H p = some (.lst xs)) (n : xs.length < sizeLine) (q : Q .non (upd H p (.lst (xs ++ [v])))) : rAppend (.ref p) [v] H Q := ⟨p, xs, v, rfl, rfl, h, n, q⟩
/-! ### the syntax's own steps -/
variable {ta tb te : TE} {t u : TT} {D : Ends} {A B : TS} {tr : TA} {g : TG} {sp : Sp} {E : XK} {r : R2} {rc : List V → Hp → VK → Prop} {n : Nat}
theorem l_var (h : σ[n]? = some (some v)) (q : Q v H) : tVar n σ H Q := ⟨v, h, q⟩
theorem l_c (q : Q v H) : tC v σ H Q := q
theorem l_op (q : ta σ H fun x H1 => tb σ H1 fun y H2 => r x y H2 Q) : tOp r ta tb σ H Q := q
theorem l_cb (q : tr σ H fun vs H1 => rc vs H1 Q) : tCB rc tr σ H Q := q
theorem l_nil {Q : List V → Hp → Prop} (q : Q [] H) : tNil σ H Q := q
theorem l_cons {Q : List V → Hp → Prop} (q : ta σ H fun x H1 => tr σ H1 fun xs H2 => Q (x :: xs) H2) : tCons ta tr σ H Q := q
theorem l_call (q : tr σ H fun vs H1 => sp vs H1 Q E) : tCall sp [] E tr σ H Q := by
  show tr σ H fun vs H1 => sp (vs ++ []) H1 Q E
  simp only [List.append_nil]
  exact q
theorem l_lst (q : tr σ H fun xs H1 => xs.length ≤ sizeLine ∧ ∀ p, H1 p = none → Q (.ref p) (upd H1 p (.lst xs))) : tLst tr σ H Q := q
theorem l_tup (q : tr σ H fun xs H1 => xs.length ≤ sizeLine ∧ ∀ p, H1 p = none → Q (.ref p) (upd H1 p (.tup xs))) : tTup tr σ H Q := q
theorem l_bm {T : String} {rm : V → List V → Hp → VK → Prop} {to : TE} (q : to σ H fun x H1 => tyV K T x H1 ∧ tr σ H1 fun xs H2 => rm x xs H2 Q) : tBM K T rm to tr σ H Q := q
theorem l_tyL (h : SqL K H p xs) : tyV K "list" (.ref p) H := .inl ⟨rfl, xs, h⟩
theorem l_seq (q : A { D with nx := B D } σ H) : tSeq A B D σ H := q
theorem l_next (q : D.nx σ H) : tNext D σ H := q
theorem l_asg (q : te σ H fun x H1 => g x σ H1 D.nx) : tAsg te g D σ H := q
theorem l_gname {R : L2.St → Hp → Prop} (q : R (σ.set n (some v)) H) : gName n v σ H R := q
theorem l_gsub {R : L2.St → Hp → Prop} {ts : L2.TSet} (q : ta σ H fun o H1 => tb σ H1 fun i H2 => ts o i v H2 fun H3 => R σ H3) : gSub ta tb ts v σ H R := q
theorem l_ret (q : te σ H D.rt) : tRet te D σ H := q
theorem l_drop (q : te σ H fun _ H1 => D.nx σ H1) : tDrop te D σ H := q
theorem l_ifs (q : t σ H fun b H1 => if b = true then A D σ H1 else B D σ H1) : tIfS t A B D σ H := q
theorem l_test {R : Bool → Hp → Prop} (q : te σ H fun x H1 => ∃ k, x = .bl k ∧ R k H1) : tTest te σ H R := q
theorem l_b {R : Bool → Hp → Prop} (q : te σ H fun x H1 => ∃ k, x = .bl k ∧ R k H1) : tB te σ H R := q
theorem l_bl {k : Bool} {R : Bool → Prop} (q : R k) : ∃ c, V.bl k = .bl c ∧ R c := ⟨k, rfl, q⟩
theorem l_not {R : Bool → Hp → Prop} (q : t σ H fun c H1 => R (!c) H1) : tNot t σ H R := q
theorem l_or {R : Bool → Hp → Prop} (q : t σ H fun c H1 => if c = true then R true H1 else u σ H1 R) : tOr t u σ H R := q
theorem l_and {R : Bool → Hp → Prop} (q : t σ H fun c H1 => if c = true then u σ H1 R else R false H1) : tAnd t u σ H R := q
theorem l_aug {ti : TIp} (h : σ[n]? = some (some x)) (q : te σ H fun y H1 => ti x y H1 fun z H2 => D.nx (σ.set n (some z)) H2) : tAug n te ti D σ H := ⟨x, h, q⟩
theorem l_ipI {f : Int → Int → Int} (q : Q (.int (f i j)) H) : ipI f (.int i) (.int j) H Q := ⟨i, j, rfl, rfl, q⟩
theorem l_if {c A B : Prop} [Decidable c] (h1 : c → A) (h2 : ¬ c → B) : if decide c = true then A else B := by
  by_cases h : c
  · rw [if_pos (decide_eq_true h)]; exact h1 h
  · rw [if_neg (by rw [decide_eq_false h]; decide)]; exact h2 h
theorem l_ifN {c A B : Prop} [Decidable c] (h1 : ¬ c → A) (h2 : c → B) : if (!decide c) = true then A else B := by
  by_cases h : c
  · rw [if_neg (by rw [decide_eq_true h]; decide)]; exact h2 h
  · rw [if_pos (by rw [decide_eq_false h]; decide)]; exact h1 h
theorem l_ifT {A B : Prop} (h : A) : if true = true then A else B := by rw [if_pos rfl]; exact h
theorem l_ifF {A B : Prop} (h : B) : if false = true then A else B := by rw [if_neg Bool.false_ne_true]; exact h
theorem l_if2 {b : Bool} {A B : Prop} (h1 : b = true → A) (h2 : b = false → B) : if b = true then A else B := by
  cases b
  · exact l_ifF (h2 rfl)
  · exact l_ifT (h1 rfl)
theorem sqL (h : H p = some (.lst xs)) : SqL K H p xs := .inl (.inl h)
theorem sqT (h : H p = some (.tup xs)) : SqT K H p xs := .inl (.inl h)
end
end Tq
namespace Tq
open PySem PySem.Spec PyProof.Rows L2
theorem atI_some {α : Type} {xs : List α} {i : Int} (h0 : 0 ≤ i) (h1 : i < xs.length) : ∃ x, atI xs i = some x ∧ xs[i.toNat]? = some x := by
  have l : i.toNat < xs.length := by omega
  refine ⟨xs[i.toNat], ?_, List.getElem?_eq_getElem l⟩
  unfold atI ixN
  rw [if_pos h0, if_pos h1]
  exact List.getElem?_eq_getElem l
theorem atI_map {α β : Type} {f : α → β} {xs : List α} {i : Int} (h0 : 0 ≤ i) (h1 : i < xs.length) : ∃ x, atI (xs.map f) i = some (f x) ∧ xs[i.toNat]? = some x := by
  obtain ⟨y, e1, e2⟩ := atI_some (xs := xs.map f) h0 (by rw [List.length_map]; exact h1)
  rw [List.getElem?_map] at e2
  cases e : xs[i.toNat]? with
  | none => rw [e] at e2; cases e2
  | some x =>
    rw [e] at e2
    cases e2
    exact ⟨x, e1, rfl⟩
theorem fmod_lt {i j : Int} (h : 0 ≤ i) (hj : 0 < j) : 0 ≤ i.fmod j ∧ i.fmod j < j := by
  rw [Int.fmod_eq_emod_of_nonneg i (Int.le_of_lt hj)]
  exact ⟨Int.emod_nonneg i (by omega), Int.emod_lt_of_pos i hj⟩
theorem fdiv_nn {i j : Int} (h : 0 ≤ i) (hj : 0 < j) : 0 ≤ i.fdiv j := by
  rw [Int.fdiv_eq_ediv_of_nonneg i (Int.le_of_lt hj)]
  exact Int.ediv_nonneg h (by omega)
theorem abs_nn (i : Int) : 0 ≤ (if i < 0 then -i else i) := by split <;> omega
theorem max_eq (i j : Int) : (if j > i then j else i) = max i j := by
  rw [Int.max_def]; split <;> split <;> omega
end Tq
namespace Tq
open PySem PySem.Spec PyProof.Rows L2
/-! ### texts in ascending order -/
abbrev tl (x y : Str) : Prop := x.cps.toList < y.cps.toList
theorem tl_irrefl (x : Str) : ¬ tl x x := List.lt_irrefl _
theorem tl_trans {x y z : Str} (a : tl x y) (b : tl y z) : tl x z := List.lt_trans a b
theorem tl_tri (x y : Str) : tl x y ∨ x = y ∨ tl y x := by
  by_cases a : tl x y
  · exact .inl a
  · by_cases b : tl y x
    · exact .inr (.inr b)
    · refine .inr (.inl ?_)
      have e : x.cps.toList = y.cps.toList := List.le_antisymm (List.not_lt.mp b) (List.not_lt.mp a)
      cases x; cases y
      simpa using Array.toList_inj.mp e
theorem sortedS_pw : ∀ {ys : List Str}, sortedS ys = true → ys.Pairwise (fun a b => ¬ tl b a)
  | [], _ => .nil
  | [x], _ => by simp
  | x :: y :: r, h => by
    have h1 : (!ltCps y.cps.toList x.cps.toList && risingS y r) = true := h
    rw [Bool.and_eq_true, Bool.not_eq_true', ltCps_eq, decide_eq_false_iff_not] at h1
    have ih := sortedS_pw (ys := y :: r) h1.2
    refine List.pairwise_cons.mpr ⟨fun z m => ?_, ih⟩
    rcases List.mem_cons.mp m with e | e
    · rw [e]; exact h1.1
    · have h2 := (List.pairwise_cons.mp ih).1 z e
      intro c
      rcases tl_tri x y with d | d | d
      · exact h2 (tl_trans c d)
      · exact h2 (d ▸ c)
      · exact h1.1 d
/-- strictly ascending -/
abbrev Up (ys : List Str) : Prop := ys.Pairwise tl
theorem up_of {ys : List Str} (h : sortedS ys = true) (n : ys.Nodup) : Up ys := by
  have a := sortedS_pw h
  refine (a.and n).imp fun {x y} h => ?_
  rcases tl_tri x y with d | d | d
  · exact d
  · exact absurd d h.2
  · exact absurd d h.1
theorem up_nd {ys : List Str} (h : Up ys) : ys.Nodup := List.Pairwise.imp (S := fun x y => x ≠ y) (fun {x y} (d : tl x y) (e : x = y) => tl_irrefl y (e ▸ d)) h
/-- two ascending lists with the same members are one -/
theorem up_one : ∀ {xs ys : List Str}, Up xs → Up ys → (∀ z, z ∈ xs ↔ z ∈ ys) → xs = ys
  | [], [], _, _, _ => rfl
  | [], y :: r, _, _, h => absurd ((h y).mpr List.mem_cons_self) (by simp)
  | x :: r, [], _, _, h => absurd ((h x).mp List.mem_cons_self) (by simp)
  | x :: r, y :: t, hx, hy, h => by
    have hx' := List.pairwise_cons.mp hx
    have hy' := List.pairwise_cons.mp hy
    have e : x = y := by
      rcases List.mem_cons.mp ((h x).mp List.mem_cons_self) with e | e
      · exact e
      · rcases List.mem_cons.mp ((h y).mpr List.mem_cons_self) with e2 | e2
        · exact e2.symm
        · exact absurd (tl_trans (hx'.1 y e2) (hy'.1 x e)) (tl_irrefl x)
    subst e
    rw [up_one (xs := r) (ys := t) hx'.2 hy'.2 fun z => ?_]
    constructor
    · intro m
      rcases List.mem_cons.mp ((h z).mp (List.mem_cons_of_mem _ m)) with e | e
      · exact absurd (hx'.1 z m) (by rw [e]; exact tl_irrefl x)
      · exact e
    · intro m
      rcases List.mem_cons.mp ((h z).mpr (List.mem_cons_of_mem _ m)) with e | e
      · exact absurd (hy'.1 z m) (by rw [e]; exact tl_irrefl x)
      · exact e
/-- ys is xs in ascending order, each once -/
structure IsAsc (ys xs : List Str) : Prop where
  up : Up ys
  mem : ∀ z, z ∈ ys ↔ z ∈ xs
theorem isAsc_of {ys xs : List Str} (p : ys.Perm (once xs)) (s : sortedS ys = true) : IsAsc ys xs :=
  ⟨up_of s (p.nodup_iff.mpr (once_nd xs)), fun z => (p.mem_iff).trans (once_mem xs z)⟩
theorem IsAsc.self {ys : List Str} (h : Up ys) : IsAsc ys ys := ⟨h, fun _ => Iff.rfl⟩
theorem IsAsc.one {ys zs xs : List Str} (a : IsAsc ys xs) (b : IsAsc zs xs) : ys = zs := up_one a.up b.up fun z => (a.mem z).trans (b.mem z).symm
theorem IsAsc.len {ys xs : List Str} (a : IsAsc ys xs) : ys.length ≤ xs.length := by
  have e : ys.Perm (once xs) := (List.perm_ext_iff_of_nodup (up_nd a.up) (once_nd xs)).mpr fun z => (a.mem z).trans (once_mem xs z).symm
  rw [e.length_eq]
  exact once_len xs
/-! ### what a text is [20] -/
structure IsText (z : Str) : Prop where
  len : z.length ≤ 12
  ok : ∀ c ∈ z.cps.toList, 32 ≤ c ∧ c ≤ 126 ∧ c ≠ 34 ∧ c ≠ 37
/-! ### the tape -/
section
variable {K : PySem.W.Frag} {H H' : Hp} {t a p : Addr} {o u : HO}
theorem Tape.same (h : Tape H t a) (e : Same H H') : Tape H' t a := by
  obtain ⟨ns, p, c, d, n, h1, h2, h3, h4, h5⟩ := h
  exact ⟨ns, p, c, d, n, h1, h2, h3, e _ _ h4, e _ _ h5⟩
theorem Tape.ne (h : Tape H t a) (n : H p = none) : p ≠ t ∧ p ≠ a := by
  obtain ⟨ns, q, c, d, n', h1, h2, h3, h4, h5⟩ := h
  exact ⟨(ne_of_none h5 n).symm, (ne_of_none h4 n).symm⟩
theorem Tape.put (h : Tape H t a) (n1 : p ≠ t) (n2 : p ≠ a) : Tape (L2.upd H p u) t a := by
  obtain ⟨ns, q, c, d, n', h1, h2, h3, h4, h5⟩ := h
  exact ⟨ns, q, c, d, n', h1, h2, h3, by rw [upd_ne n2.symm]; exact h4, by rw [upd_ne n1.symm]; exact h5⟩
theorem new_same (h : H p = none) : Same H (L2.upd H p o) := fun b x e => by
  rw [upd_ne (ne_of_none e h)]
  exact e
end
end Tq
namespace Tq
open PySem PySem.Spec PyProof.Rows L2
theorem mul1_list (c : Nat) (n : Int) : (Txt.mul ⟨#[c]⟩ n).cps.toList = List.replicate n.toNat c := mul_one_list c n
theorem mul1_len (c : Nat) (n : Int) : (Txt.mul ⟨#[c]⟩ n).length = n.toNat := by
  have e := congrArg List.length (mul1_list c n)
  rw [List.length_replicate, Array.length_toList] at e
  exact e
theorem app_len (x y : Str) : (x ++ y).length = x.length + y.length := Array.size_append
theorem app_list (x y : Str) : (x ++ y).cps.toList = x.cps.toList ++ y.cps.toList := Array.toList_append
theorem one_len (c : Nat) : (⟨#[c]⟩ : Str).length = 1 := rfl
theorem fits {n : Nat} (h : n ≤ 1000000) : n ≤ sizeLine := Nat.le_trans h (by decide)
theorem fits_lt {n : Nat} (h : n < 1000000) : n < sizeLine := Nat.lt_of_lt_of_le h (by decide)
end Tq
namespace Tq
open PySem PySem.Spec PyProof.Rows L2
section
variable {X : Cx} {K : PySem.W.Frag} {H : Hp} {Q : VK} {i j : Int} {σ : L2.St} {a p : Addr} {x y v : V} {xs ys : List V} {ta tb te : TE} {t u : TT} {D : Ends} {A B : TS} {tr : TA} {g : TG}
theorem l_lc {wi : TI} {vs : List Nat} (q : wi σ H fun J H1 => ∀ D, H1 D = none → ∃ W : Nat → Nat → Hp → Prop, (∃ m, W 0 m (upd H1 D (.lst []))) ∧ ∀ i m H, W i m H →
  (J.stop i H ∧ Q (.ref D) H) ∨ (J.go i H ∧ ∃ Nx : Hp → Prop, (∀ H', Nx H' → ∃ m', m' < m ∧ W (i + 1) m' H') ∧ ∀ x H', J.yld i H x H' → g x (wipe σ vs) H' fun σ2 H2 => wipe σ2 vs = wipe σ vs ∧ t σ2 H2 fun b H3 =>
    if b = true then te σ2 H3 fun y H4 => ∃ acc, H4 D = some (.lst acc) ∧ acc.length < sizeLine ∧ Nx (upd H4 D (.lst (acc ++ [y]))) else Nx H3)) : tLc wi g t te vs σ H Q := q
theorem l_for {wi : TI} (q : wi σ H fun J H1 => ∃ W : Nat → Nat → L2.St → Hp → Prop, (∃ m, W 0 m σ H1) ∧ ∀ i m σ H, W i m σ H →
  (J.stop i H ∧ D.nx σ H) ∨ (J.go i H ∧ ∃ N : L2.St → Hp → Prop, (∀ σ' H', N σ' H' → ∃ m', m' < m ∧ W (i + 1) m' σ' H') ∧ ∀ x H', J.yld i H x H' → g x σ H' fun σ2 H2 => A { D with nx := N, ct := N, bk := D.nx } σ2 H2)) : tFor wi g A D σ H := q
theorem l_rng1 {R : It → Hp → Prop} (q : tr σ H fun vs H1 => ∃ j : Int, vs = [.int j] ∧ -(2 ^ 62) ≤ j ∧ j < 2 ^ 62 ∧ R (Itr 0 j.toNat) H1) : iRng1 tr σ H R := q
theorem l_ilist {R : It → Hp → Prop} (q : ta σ H fun x H1 => ∃ a, x = .ref a ∧ (∃ xs, SqL K H1 a xs) ∧ R (Itl K a) H1) : iList K ta σ H R := q
theorem l_itup {R : It → Hp → Prop} (q : ta σ H fun x H1 => ∃ a, x = .ref a ∧ (∃ xs, SqT K H1 a xs) ∧ R (Itt K a) H1) : iTup K ta σ H R := q
theorem l_yes {R : Bool → Hp → Prop} (q : R true H) : tYes σ H R := q
theorem l_in {z : Str} {zs : List Str} {neg : Bool} (h : SqL K H p (zs.map V.str) ∨ SqT K H p (zs.map V.str)) (q : Q (.bl (if neg then !decide (z ∈ zs) else decide (z ∈ zs))) H) : rIn K neg (.str z) (.ref p) H Q := by
  have e : inV (.str z) (zs.map V.str) = decide (z ∈ zs) := by
    unfold inV
    rw [List.any_map]
    by_cases m : z ∈ zs
    · rw [decide_eq_true m]
      exact List.any_eq_true.mpr ⟨z, m, by simp [eqV]⟩
    · rw [decide_eq_false m]
      refine List.any_eq_false.mpr fun y hy c => m ?_
      have : y = z := by simpa [eqV] using c
      exact this ▸ hy
  refine ⟨p, _, rfl, h, rfl, ?_, ?_⟩
  · rw [List.all_map]; exact List.all_eq_true.mpr fun _ _ => rfl
  · rw [e]; exact q
theorem strOk_text {z : Str} (h : IsText z) : PyData.strOk z = true := by
  unfold PyData.strOk
  rw [← Array.all_toList, List.all_eq_true]
  intro c m
  have := h.ok c m
  exact decide_eq_true (by omega)
/-- == of two tuples of texts -/
theorem l_eqT {q1 q2 : Addr} {zs us : List Str} (h1 : SqT K H q1 (zs.map V.str)) (h2 : SqT K H q2 (us.map V.str)) (o1 : ∀ z ∈ zs, PyData.strOk z = true) (o2 : ∀ z ∈ us, PyData.strOk z = true) (q : Q (.bl (decide (zs = us))) H) : rEqD K (.ref q1) (.ref q2) H Q := by
  have da : ∀ l : List Str, DpAll K H (l.map V.str) (l.map PyData.str) := fun l => by
    induction l with
    | nil => exact .nil
    | cons x r ih => exact .cons (.str x) ih
  have cl : ∀ l : List Str, (∀ z ∈ l, PyData.strOk z = true) → PyData.canLayAll0 (l.map PyData.str) = true ∧ PyData.depthAll (l.map PyData.str) = 0 := fun l => by
    induction l with
    | nil => intro _; exact ⟨rfl, rfl⟩
    | cons x r ih =>
      intro h
      obtain ⟨a, b⟩ := ih fun z m => h z (List.mem_cons_of_mem _ m)
      have c := h x List.mem_cons_self
      rw [List.map_cons]
      constructor
      · show (PyData.canLay0 (.str x) && PyData.canLayAll0 (r.map PyData.str)) = true
        rw [a]
        show (PyData.strOk x && true) = true
        rw [c]; rfl
      · show max (PyData.depth (.str x)) (PyData.depthAll (r.map PyData.str)) = 0
        rw [b]; rfl
  have sh : ∀ l : List Str, (∀ z ∈ l, PyData.strOk z = true) → SeqAt.shaped (.tuple (l.map PyData.str)) = true := fun l h => by
    obtain ⟨a, b⟩ := cl l h
    show (PyData.canLayAll0 (l.map PyData.str) && decide (PyData.depthAll (l.map PyData.str) + 1 ≤ 64)) = true
    rw [a, b]; rfl
  have ev : ∀ l r : List Str, PyData.eqvAll (l.map PyData.str) (r.map PyData.str) = decide (l = r) := fun l => by
    induction l with
    | nil => intro r; cases r <;> simp [PyData.eqvAll]
    | cons x l ih =>
      intro r
      cases r with
      | nil => simp [PyData.eqvAll]
      | cons y r => rw [List.map_cons, List.map_cons, PyData.eqvAll, PyData.eqv, ih r]; by_cases e : x = y <;> simp [e]
  refine ⟨.tuple (zs.map .str), .tuple (us.map .str), .tup h1 (da zs), .tup h2 (da us), sh zs o1, sh us o2, ?_⟩
  have e : PyData.eqv (.tuple (zs.map PyData.str)) (.tuple (us.map PyData.str)) = decide (zs = us) := ev zs us
  rw [e]; exact q
end
end Tq
namespace Tq
open PySem PySem.Spec PyProof.Rows L2
/-! ### the rules that speak of the written part, told over K -/
section
variable {X : Cx} {K : PySem.W.Frag} {w : World} {tg e : Expr} {te : TE}
theorem k_len (h : X.K = K) : CallR X (.builtin "len") (rLenQ K) := h ▸ c_len
theorem k_list (h : X.K = K) : CallR X (.type "list") (rListQ K) := h ▸ c_list
theorem k_tuple (h : X.K = K) : CallR X (.type "tuple") (rTupQ K) := h ▸ c_tuple
theorem k_ixL (h : X.K = K) : IxR X (rIxL K) := h ▸ ix_list
theorem k_ixT (h : X.K = K) : IxR X (rIxT K) := h ▸ ix_tup
theorem k_slL (h : X.K = K) : SlR X (rSlL K) := h ▸ sl_list
theorem k_slT (h : X.K = K) : SlR X (rSlT K) := h ▸ sl_tup
theorem k_in (h : X.K = K) : OpR X (compareOp .In) (rIn K false) := h ▸ op_in_seq
theorem k_notIn (h : X.K = K) : OpR X (compareOp .NotIn) (rIn K true) := h ▸ op_notIn_seq
theorem k_eqD (h : X.K = K) (hu : X.A.units + 64 < cLine) : OpR X (compareOp .Eq) (rEqD K) := h ▸ op_eqD hu
theorem k_neD (h : X.K = K) (hu : X.A.units + 64 < cLine) : OpR X (compareOp .NotEq) (rNeD K) := h ▸ op_neD hu
theorem k_set (h : X.K = K) (h2 : X.w = w) (hc : X.calm = true) : CallR X (.type "set") (rSetT K w) := h ▸ h2 ▸ cr_setT hc
theorem k_sorted (h2 : X.w = w) (hc : X.calm = true) : CallR X (.builtin "sorted") (rSortT w) := h2 ▸ cr_sortT hc
theorem k_sortedL (h : X.K = K) : CallR X (.builtin "sorted") (rSortedS K) := h ▸ cr_sortedS
theorem k_inT (h2 : X.w = w) : OpR X (compareOp .In) (rInT w false) := h2 ▸ op_inT
theorem k_notInT (h2 : X.w = w) : OpR X (compareOp .NotIn) (rInT w true) := h2 ▸ op_notInT
theorem k_isi (h : X.K = K) : CallR X (.builtin "isinstance") (rIsi K) := h ▸ call_isi
theorem k_piL (h : X.K = K) (he : PE X e te) : PI X tg e (iList K te) := h ▸ pi_list he
theorem k_piT (h : X.K = K) (he : PE X e te) : PI X tg e (iTup K te) := h ▸ pi_tup he
end
end Tq
namespace Tq
open PySem PySem.Spec PyProof.Rows L2
section
variable {K : PySem.W.Frag} {H : Hp} {Q : VK} {p : Addr} {x : V} {xs : List V}
theorem ty_T (h : SqT K H p xs) : TyX K H (.ref p) (.type "tuple") := by
  rcases h with (h | ⟨o, h⟩) | ⟨o, its, n, h1, h2, _⟩
  · exact .base (.tup h)
  · exact .fTuple h
  · exact .kTuple h1 h2
theorem l_isi {t n : String} {b : Bool} (ty : TyX K H x (.type t)) (h : kitB t n = some b) (q : Q (.bl b) H) : rIsi K [x, .ty n] H Q := ⟨x, _, _, _, b, rfl, .ty n, ty, kit_ty h, q⟩
theorem kit_TT : kitB "tuple" "tuple" = some true := by decide +kernel
theorem kit_SS : kitB "str" "str" = some true := by decide +kernel
theorem kit_TS : kitB "tuple" "str" = some false := by decide +kernel
theorem kit_NS : kitB "NoneType" "str" = some false := by decide +kernel
theorem l_isTT (h : SqT K H p xs) (q : Q (.bl true) H) : rIsi K [.ref p, .ty "tuple"] H Q := l_isi (ty_T h) kit_TT q
theorem l_isSS {z : Str} (q : Q (.bl true) H) : rIsi K [.str z, .ty "str"] H Q := l_isi (.base (.str z)) kit_SS q
theorem l_isTS (h : SqT K H p xs) (q : Q (.bl false) H) : rIsi K [.ref p, .ty "str"] H Q := l_isi (ty_T h) kit_TS q
theorem l_isNS (q : Q (.bl false) H) : rIsi K [.non, .ty "str"] H Q := l_isi (.base .non) kit_NS q
end
end Tq
namespace Tq
theorem l_ifNT {A B : Prop} (h : B) : if (!true) = true then A else B := h
theorem l_ifNF {A B : Prop} (h : A) : if (!false) = true then A else B := h
end Tq
namespace Tq
open PySem PySem.Spec PyProof.Rows L2
/-- a def of the text, by what the top has left -/
def df_mk {K : PySem.W.Frag} {h : Heap} {mg : Str → Option Value} {x : Str} {st : Stmt} {ps : List Str} (X : K.In h) (G : h.Ns mainGlobals mg) {f : Addr} {od an : Option Addr} {sl : Array (Option Value)} {oc kV dc pm cd ct : Value}
    (a : PySem.W.nsIn K mainGlobals x = some (some (.ref f))) (l : K.lookup f = some ⟨oc, od, .func (PySem.W.fnOf x x (defArgs st) (defBody st) (defScope st) .none kV dc pm an cd ct), sl⟩) (c : PySem.W.codeIn K cd x = true) (k : PySem.W.keepIn K (.ref f) = true)
    (b : ∀ (kV doc pm : Value) (an : Option Addr) (cdv ct : Value) (us : List Value), us.length = ps.length → bindArgs (PySem.W.fnOf x x (defArgs st) (defBody st) (defScope st) .none kV doc pm an cdv ct) ⟨us, []⟩ = pure (ps.zip us)) : Df K mg x st ps :=
  ⟨f, _, fun_mk l c k, PySem.W.mg_of X G a, (fun_mk (x := x) (qual := x) (st := st) l c k).binds b⟩
end Tq
namespace Tq
open PySem PySem.Spec PyProof.Rows L2
/-! ### texts with a number -/
abbrev numS (k : Nat) : Str := Str.ofString (toString (k : Int))
theorem numS_list (k : Nat) : (numS k).cps.toList = (Nat.toDigits 10 k).map Char.toNat := by
  show (Str.ofString (toString (k : Int))).cps.toList = _
  rw [Str.ofString_eq_toList, Int.toString_eq_repr]
  show ((Int.repr (k : Int)).toList.map Char.toNat).toArray.toList = _
  have e : Int.repr (k : Int) = Nat.repr k := rfl
  rw [e, Nat.repr_eq_ofList_toDigits]
  simp
theorem numS_inj {i j : Nat} (h : numS i = numS j) : i = j := by
  have e : (Nat.toDigits 10 i).map Char.toNat = (Nat.toDigits 10 j).map Char.toNat := by rw [← numS_list, ← numS_list, h]
  have e2 : Nat.toDigits 10 i = Nat.toDigits 10 j := by
    refine List.map_inj_right (f := Char.toNat) (fun a b h => ?_) |>.mp e
    exact Char.toNat_inj.mp h
  rw [← Nat.ofDigitChars_toDigits (b := 10) (n := i) (by decide) (by decide), e2, Nat.ofDigitChars_toDigits (by decide) (by decide)]
theorem numS_len {k : Nat} (h : k < 100000) : (numS k).length ≤ 5 := toString_length_le (by omega) (by decide) (by omega)
theorem numS_ok (k : Nat) : ∀ c ∈ (numS k).cps.toList, 48 ≤ c ∧ c ≤ 57 := by
  intro c hc
  rw [numS_list] at hc
  obtain ⟨d, hd, rfl⟩ := List.mem_map.mp hc
  have := Nat.isDigit_of_mem_toDigits (by decide) (by decide) hd
  simp only [Char.isDigit, Bool.and_eq_true, decide_eq_true_eq] at this
  have h1 := this.1; have h2 := this.2
  constructor
  · exact h1
  · exact h2
/-- the letter and a number -/
def nm (z : Str) (k : Nat) : Str := z ++ numS k
theorem nm_inj {z : Str} {i j : Nat} (h : nm z i = nm z j) : i = j := by
  refine numS_inj ?_
  have e : z.cps ++ (numS i).cps = z.cps ++ (numS j).cps := congrArg Str.cps h
  have e2 := (Array.append_right_inj z.cps).mp e
  generalize numS i = a at e2 ⊢
  generalize numS j = b at e2 ⊢
  cases a; cases b
  simp only at e2
  rw [e2]
theorem nm_len {z : Str} {k : Nat} (h : k < 100000) : (nm z k).length ≤ z.length + 5 := by
  unfold nm
  rw [app_len]
  have := numS_len h
  omega
theorem strOk_app {x y : Str} (a : PyData.strOk x = true) (b : PyData.strOk y = true) : PyData.strOk (x ++ y) = true := by
  unfold PyData.strOk at *
  rw [← Array.all_toList] at *
  rw [app_list, List.all_append, a, b]; rfl
theorem strOk_num (k : Nat) : PyData.strOk (numS k) = true := by
  unfold PyData.strOk
  rw [← Array.all_toList, List.all_eq_true]
  intro c m
  have := numS_ok k c m
  exact decide_eq_true (by omega)
theorem strOk_nm {z : Str} (h : PyData.strOk z = true) (k : Nat) : PyData.strOk (nm z k) = true := strOk_app h (strOk_num k)
theorem empty_app (z : Str) : Str.empty ++ z = z := by
  have : (Str.empty ++ z).cps = z.cps := by
    show #[] ++ z.cps = z.cps
    simp
  generalize Str.empty ++ z = a at this ⊢
  cases a; cases z
  simp only at this
  rw [this]
/-- of the letter and 1, 2, .. n those that are not in xs -/
def named (z : Str) (xs : List Str) (n : Nat) : List Str := ((List.range' 1 n).map (nm z)).filter fun t => !decide (t ∈ xs)
theorem named_succ (z : Str) (xs : List Str) (n : Nat) : named z xs (n + 1) = named z xs n ++ (if nm z (n + 1) ∈ xs then [] else [nm z (n + 1)]) := by
  unfold named
  rw [List.range'_concat, List.map_append, List.filter_append]
  congr 1
  rw [show 1 + 1 * n = n + 1 by omega]
  by_cases h : nm z (n + 1) ∈ xs <;> simp [h]
theorem named_add (z : Str) (xs : List Str) (n k : Nat) : ∃ r, named z xs (n + k) = named z xs n ++ r := by
  induction k with
  | zero => exact ⟨[], by simp⟩
  | succ k ih =>
    obtain ⟨r, e⟩ := ih
    rw [← Nat.add_assoc, named_succ, e]
    exact ⟨_, List.append_assoc ..⟩
/-- so many are in xs at most -/
theorem named_len (z : Str) (xs : List Str) (n : Nat) : n ≤ (named z xs n).length + xs.length := by
  have nd : (((List.range' 1 n).map (nm z)).filter fun t => decide (t ∈ xs)).Nodup := by
    refine List.Pairwise.filter _ ?_
    refine List.Pairwise.map _ (fun a b (h : a ≠ b) e => h (nm_inj e)) (List.nodup_range' (s := 1) (n := n))
  have sub : (((List.range' 1 n).map (nm z)).filter fun t => decide (t ∈ xs)) ⊆ xs := by
    intro t m
    exact of_decide_eq_true (List.mem_filter.mp m).2
  have l := List.Nodup.length_le_of_subset nd sub
  have s : ∀ l : List Str, l.length = (l.filter fun t => decide (t ∈ xs)).length + (l.filter fun t => !decide (t ∈ xs)).length := fun l => by
    induction l with
    | nil => rfl
    | cons a r ih =>
      by_cases h : a ∈ xs
      · simp [h]; omega
      · simp [h]; omega
  have s2 := s ((List.range' 1 n).map (nm z))
  rw [List.length_map, List.length_range'] at s2
  unfold named
  omega
/-- the first m of them -/
def firstN (z : Str) (m : Nat) (xs : List Str) : List Str := (named z xs (m + xs.length)).take m
theorem firstN_of {z : Str} {m n : Nat} {xs : List Str} (h : (named z xs n).length = m) : named z xs n = firstN z m xs := by
  unfold firstN
  rcases Nat.le_total n (m + xs.length) with l | l
  · obtain ⟨k, e⟩ := Nat.le.dest l
    obtain ⟨r, er⟩ := named_add z xs n k
    rw [← e, er, ← h, List.take_left]
  · obtain ⟨k, e⟩ := Nat.le.dest l
    obtain ⟨r, er⟩ := named_add z xs (m + xs.length) k
    rw [e] at er
    have l1 := named_len z xs (m + xs.length)
    have l2 : (named z xs (m + xs.length)).length + r.length = m := by rw [← List.length_append, ← er, h]
    have r0 : r = [] := List.eq_nil_of_length_eq_zero (by omega)
    rw [er, r0, List.append_nil, List.take_of_length_le (by omega)]
theorem firstN_len (z : Str) (m : Nat) (xs : List Str) : (firstN z m xs).length = m := by
  unfold firstN
  rw [List.length_take]
  have := named_len z xs (m + xs.length)
  omega
theorem firstN_ok {z : Str} {m : Nat} {xs : List Str} : ∀ t ∈ firstN z m xs, ∃ k, t = nm z k ∧ k ≤ m + xs.length := by
  intro t ht
  have h := (List.mem_filter.mp (List.mem_of_mem_take ht)).1
  obtain ⟨k, hk, rfl⟩ := List.mem_map.mp h
  have := List.mem_range'_1.mp hk
  exact ⟨k, rfl, by omega⟩
end Tq
namespace Tq
open PySem PySem.Spec PyProof.Rows L2
/-- a def of one parameter and one by its name alone, whose default is () -/
structure Dk (K : PySem.W.Frag) (mg : Str → Option Value) (x : Str) (st : Stmt) (a k : Str) where
  f : Addr
  fd : FuncData
  e0 : Addr
  F : FunD K x x (defArgs st) (defBody st) (defScope st) [] [(k, .ref e0)] f fd
  g : mg x = some (.ref f)
  et : ∀ H : Hp, SqT K H e0 []
  b : ∃ ds, Vals [V.ref e0] ds ∧ Binds K fd [a, k] ds
  kb : KBn K fd [a, k] 1 [k] (fun us ws => us ++ ws) (fun vs zs => vs ++ zs)
def dk_mk {K : PySem.W.Frag} {h : Heap} {mg : Str → Option Value} {x a k : Str} {st : Stmt} (X : K.In h) (G : h.Ns mainGlobals mg) {f kd ke : Addr} {od an : Option Addr} {sl : Array (Option Value)} {oc dc pm cd ct : Value} {ko : Obj} {n : Nat}
    (ha : PySem.W.nsIn K mainGlobals x = some (some (.ref f))) (l : K.lookup f = some ⟨oc, od, .func (PySem.W.fnOf x x (defArgs st) (defBody st) (defScope st) .none (.ref kd) dc pm an cd ct), sl⟩) (c : PySem.W.codeIn K cd x = true) (kp : PySem.W.keepIn K (.ref f) = true)
    (hn : PySem.W.nsIn K kd k = some (some (.ref ke))) (ho : K.lookup ke = some ko) (ht : ko.cls = .type "tuple") (hd : ko.data = .seq #[] n)
    (h1 : ∀ (D : Addr) (doc pm : Value) (an : Option Addr) (cdv ct : Value) (us ks : List Value), us.length = 1 → ks.length = 1 →
      KwChain D (([(k, V.ref ke)].map (·.1)).zip ks) (bindArgs (PySem.W.fnOf x x (defArgs st) (defBody st) (defScope st) .none (.ref D) doc pm an cdv ct) ⟨us, []⟩) ([a, k].zip (us ++ ks)))
    (h2 : ∀ (kV doc pm : Value) (an : Option Addr) (cdv ct : Value) (us ws : List Value), us.length = 1 → ws.length = 1 →
      bindArgs (PySem.W.fnOf x x (defArgs st) (defBody st) (defScope st) .none kV doc pm an cdv ct) ⟨us, [k].zip ws⟩ = pure ([a, k].zip (us ++ ws))) : Dk K mg x st a k := by
  have F : FunD K x x (defArgs st) (defBody st) (defScope st) [] [(k, V.ref ke)] f (PySem.W.fnOf x x (defArgs st) (defBody st) (defScope st) .none (.ref kd) dc pm an cd ct) := by
    refine ⟨⟨oc, od, .none, .ref kd, dc, pm, an, cd, ct, sl, rfl, l, c, .inl ⟨rfl, rfl⟩, .inr ⟨kd, rfl, fun q hq => ?_⟩⟩, kp⟩
    rw [List.mem_singleton.mp hq]
    exact ⟨.ref ke, hn, rfl⟩
  refine ⟨f, _, ke, F, PySem.W.mg_of X G ha, fun H => .inr ⟨ko, #[], n, ho, ht, hd, Nat.zero_le _, .nil⟩, ?_, ⟨fun s us ws XI l1 l2 => .of_eq (h2 _ _ _ _ _ _ us ws l1 l2), fun r1 r2 => r1.append r2⟩⟩
  obtain ⟨ds, v, b⟩ := F.binds0 (ps := [a, k]) 1 (by simp) rfl h1
  exact ⟨ds, v, b⟩
section
variable {X : Cx} {K : PySem.W.Frag} {H : Hp} {Q : VK} {i j : Int} {σ : L2.St} {a p : Addr} {x y v : V} {xs ys : List V} {ta tb te : TE} {t u : TT} {D : Ends} {A B : TS} {tr tk : TA} {g : TG} {sp : Sp} {E : XK}
theorem l_callN {n m : Nat} {gV : List V → List V → List V} (q : tr σ H fun vs H1 => tk σ H1 fun zs H2 => vs.length = n ∧ zs.length = m ∧ sp (gV vs zs) H2 Q E) : tCallN n m sp gV E tr tk σ H Q := q
theorem l_callD {dvs : List V} (q : tr σ H fun vs H1 => sp (vs ++ dvs) H1 Q E) : tCall sp dvs E tr σ H Q := q
theorem l_andV (q : ta σ H fun x H1 => ∃ c, x = .bl c ∧ if c = true then tb σ H1 Q else Q (.bl false) H1) : tAndV ta tb σ H Q := q
theorem l_orV (q : ta σ H fun x H1 => ∃ c, x = .bl c ∧ if c = true then Q (.bl true) H1 else tb σ H1 Q) : tOrV ta tb σ H Q := q
theorem l_notV (q : ta σ H fun x H1 => ∃ c, x = .bl c ∧ Q (.bl (!c)) H1) : tNotV ta σ H Q := q
theorem l_while (W : Nat → L2.St → Hp → Prop) (m : Nat) (w0 : W m σ H) (hs : ∀ m σ H, W m σ H → t σ H fun b H1 => if b = true then ∃ N : L2.St → Hp → Prop, (∀ σ' H', N σ' H' → ∃ m', m' < m ∧ W m' σ' H') ∧ A { D with nx := N, ct := N, bk := D.nx } σ H1 else D.nx σ H1) :
    tWhile t A D σ H := ⟨W, ⟨m, w0⟩, hs⟩
theorem l_jsN {acc : Str} {R : Str → Hp → Prop} (q : R acc H) : tJs [] acc σ H R := q
theorem l_jsC {acc : Str} {ts : List TE} {R : Str → Hp → Prop} (q : te σ H fun x H1 => ∃ y : Str, x = .str y ∧ (acc ++ y).length ≤ sizeLine ∧ tJs ts (acc ++ y) σ H1 R) : tJs (te :: ts) acc σ H R := q
theorem l_fmtS (q : te σ H fun x H1 => (∃ y : Str, x = .str y ∧ y.length ≤ sizeLine ∧ Q (.str y) H1) ∨ ∃ i : Int, x = .int i ∧ i.natAbs.log2 < 1920 ∧ Q (.str (toString i)) H1) : tFmt te σ H Q := q
theorem l_rng2 {R : It → Hp → Prop} (q : tr σ H fun vs H1 => ∃ i j : Int, vs = [.int i, .int j] ∧ (-(2 ^ 62) ≤ i ∧ i < 2 ^ 62 ∧ -(2 ^ 62) ≤ j ∧ j < 2 ^ 62) ∧ R (Itr i (j - i).toNat) H1) : iRng2 tr σ H R := q
/-- != of two tuples of texts -/
theorem eqv_texts : ∀ l r : List Str, PyData.eqvAll (l.map PyData.str) (r.map PyData.str) = decide (l = r)
  | [], [] => by simp [PyData.eqvAll]
  | [], _ :: _ => by simp [PyData.eqvAll]
  | _ :: _, [] => by simp [PyData.eqvAll]
  | x :: l, y :: r => by
    rw [List.map_cons, List.map_cons, PyData.eqvAll, PyData.eqv, eqv_texts l r]
    by_cases e : x = y <;> simp [e]
theorem shaped_texts {l : List Str} (h : ∀ z ∈ l, PyData.strOk z = true) : SeqAt.shaped (.tuple (l.map PyData.str)) = true := by
  have cl : ∀ l : List Str, (∀ z ∈ l, PyData.strOk z = true) → PyData.canLayAll0 (l.map PyData.str) = true ∧ PyData.depthAll (l.map PyData.str) = 0 := fun l => by
    induction l with
    | nil => intro _; exact ⟨rfl, rfl⟩
    | cons x r ih =>
      intro h
      obtain ⟨a, b⟩ := ih fun z m => h z (List.mem_cons_of_mem _ m)
      rw [List.map_cons]
      constructor
      · show (PyData.strOk x && PyData.canLayAll0 (r.map PyData.str)) = true
        rw [a, h x List.mem_cons_self]; rfl
      · show max (PyData.depth (.str x)) (PyData.depthAll (r.map PyData.str)) = 0
        rw [b]; rfl
  obtain ⟨a, b⟩ := cl l h
  show (PyData.canLayAll0 (l.map PyData.str) && decide (PyData.depthAll (l.map PyData.str) + 1 ≤ 64)) = true
  rw [a, b]; rfl
theorem dp_texts (l : List Str) : DpAll K H (l.map V.str) (l.map PyData.str) := by
  induction l with
  | nil => exact .nil
  | cons x r ih => exact .cons (.str x) ih
theorem l_neT {q1 q2 : Addr} {zs us : List Str} (h1 : SqT K H q1 (zs.map V.str)) (h2 : SqT K H q2 (us.map V.str)) (o1 : ∀ z ∈ zs, PyData.strOk z = true) (o2 : ∀ z ∈ us, PyData.strOk z = true) (q : Q (.bl (!decide (zs = us))) H) : rNeD K (.ref q1) (.ref q2) H Q := by
  refine ⟨.tuple (zs.map .str), .tuple (us.map .str), .tup h1 (dp_texts zs), .tup h2 (dp_texts us), shaped_texts o1, shaped_texts o2, ?_⟩
  have e : PyData.eqv (.tuple (zs.map PyData.str)) (.tuple (us.map PyData.str)) = decide (zs = us) := eqv_texts zs us
  rw [e]; exact q
end
end Tq
namespace Tq
open PySem PySem.Spec PyProof.Rows L2
/-- one more of the first n -/
theorem take_step (z : Str) (xs : List Str) (n i : Nat) : (named z xs (i + 1)).take n =
    if nm z (i + 1) ∉ xs ∧ ((named z xs i).take n).length < n then (named z xs i).take n ++ [nm z (i + 1)] else (named z xs i).take n := by
  rw [named_succ]
  by_cases h : nm z (i + 1) ∈ xs
  · simp [h]
  · rw [if_neg h]
    by_cases l : (named z xs i).length < n
    · rw [if_pos ⟨h, by rw [List.take_of_length_le (by omega)]; exact l⟩, List.take_of_length_le (by rw [List.length_append, List.length_singleton]; omega), List.take_of_length_le (by omega)]
    · rw [if_neg (fun c => l (by have := c.2; rw [List.length_take] at this; omega)), List.take_append_of_le_length (by omega)]
theorem nm_def (z : Str) (k : Nat) : z ++ Str.ofString (toString (k : Int)) = nm z k := rfl
theorem log_small {i : Int} (h0 : 0 ≤ i) (h : i < 1000000) : i.natAbs.log2 < 1920 := by
  have : i.natAbs < 2 ^ 1920 := Nat.lt_of_lt_of_le (show i.natAbs < 2 ^ 20 by omega) (Nat.pow_le_pow_right (by decide) (by decide))
  by_cases e : i.natAbs = 0
  · rw [e]; decide
  · exact (Nat.log2_lt e).mpr this
end Tq
namespace Tq
open L2
theorem _root_.L2.Same.seqT {K : PySem.W.Frag} {H H' : Hp} {a : PySem.Addr} {xs : List V} (e : Same H H') (h : SqT K H a xs) : SqT K H' a xs := by
  rcases h with (h | ⟨o, h⟩) | h
  · exact .inl (.inl (e _ _ h))
  · exact .inl (.inr ⟨o, e _ _ h⟩)
  · exact .inr h
theorem But.seqT {K : PySem.W.Frag} {H H' : Hp} {t a : PySem.Addr} {xs : List V} (e : But t H H') (n : a ≠ t) (h : SqT K H a xs) : SqT K H' a xs := by
  rcases h with (h | ⟨o, h⟩) | h
  · exact .inl (.inl (e _ _ n h))
  · exact .inl (.inr ⟨o, e _ _ n h⟩)
  · exact .inr h
end Tq
namespace Tq
open L2
/-- what holds between two statements -/
theorem l_cut {A B : TS} {D : Ends} {σ : L2.St} {H : Hp} (I : L2.St → Hp → Prop) (hA : ∀ N : L2.St → Hp → Prop, (∀ σ' H', I σ' H' → N σ' H') → A { D with nx := N } σ H) (hB : ∀ σ' H', I σ' H' → B D σ' H') : tSeq A B D σ H := hA (B D) hB
end Tq
namespace Tq
open PySem PySem.Spec PyProof.Rows L2
/-! ### data of tuples -/
mutual
def Pu : PyData → Bool
  | .none => true
  | .bool _ => true
  | .int _ => true
  | .str _ => true
  | .tuple ds => PuAll ds
  | .list _ => false
  | .dict _ => false
def PuAll : List PyData → Bool
  | [] => true
  | d :: ds => Pu d && PuAll ds
end
theorem puAll_iff : ∀ {ds : List PyData}, PuAll ds = true ↔ ∀ d ∈ ds, Pu d = true
  | [] => by simp [PuAll]
  | d :: ds => by
    show (Pu d && PuAll ds) = true ↔ _
    rw [Bool.and_eq_true, puAll_iff]
    simp
/-- tuples stand as they stood -/
def TK (H H' : Hp) : Prop := ∀ b xs, Rd H b (.tup xs) → Rd H' b (.tup xs)
section
variable {K : PySem.W.Frag} {H H' H1 : Hp} {t p : Addr} {v x : V} {xs : List V} {d : PyData} {ds : List PyData} {o : HO}
theorem TK.refl : TK H H := fun _ _ h => h
theorem TK.trans (a : TK H H1) (b : TK H1 H') : TK H H' := fun c xs h => b c xs (a c xs h)
theorem TK.of_same (s : Same H H') : TK H H' := fun b xs h => by
  rcases h with h | ⟨o, h⟩
  · exact .inl (s _ _ h)
  · exact .inr ⟨o, s _ _ h⟩
theorem TK.of_but (s : But t H H') (h : H t = some (.lst xs)) : TK H H' := fun b ys r => by
  have n : b ≠ t := by
    rintro rfl
    rcases r with r | ⟨o, r⟩ <;> rw [h] at r <;> cases r
  rcases r with r | ⟨o, r⟩
  · exact .inl (s _ _ n r)
  · exact .inr ⟨o, s _ _ n r⟩
theorem TK.but (s : But t H H') (T : ∃ a, Tape H t a) : TK H H' := by
  obtain ⟨a, ns, q, c, e, _, _, _, _, _, h⟩ := T
  exact TK.of_but s h
theorem TK.put (h : H p = some (.lst xs)) : TK H (L2.upd H p o) := TK.of_but (But.upd (But.refl p H)) h
theorem TK.new (h : H p = none) : TK H (L2.upd H p o) := TK.of_same (new_same h)
theorem TK.putD {kvs : List (Key × V)} (h : H p = some (.dK kvs)) : TK H (L2.upd H p o) := fun b ys r => by
  have n : b ≠ p := by
    rintro rfl
    rcases r with r | ⟨o, r⟩ <;> rw [h] at r <;> cases r
  rcases r with r | ⟨o, r⟩
  · exact .inl (by rw [upd_ne n]; exact r)
  · exact .inr ⟨o, by rw [upd_ne n]; exact r⟩
theorem TK.sq (k : TK H H') (h : SqT K H p xs) : SqT K H' p xs := by
  rcases h with h | h
  · exact .inl (k _ _ h)
  · exact .inr h
end
end Tq
namespace L2
open PySem PySem.Spec PyProof.Rows Tq
section
variable {K : PySem.W.Frag} {H H' H1 : Hp} {t p : Addr} {v x : V} {xs : List V} {d : PyData} {ds : List PyData} {o : HO}
mutual
theorem Dp.keep (k : TK H H') : ∀ (d : PyData) (v : V), Pu d = true → Dp K H v d → Dp K H' v d
  | .none, _, _, .non => .non
  | .bool _, _, _, .bl b => .bl b
  | .int _, _, _, .int i => .int i
  | .str _, _, _, .str z => .str z
  | .tuple ds, _, p, .tup s a => .tup (k.sq s) (DpAll.keep k ds _ p a)
theorem DpAll.keep (k : TK H H') : ∀ (ds : List PyData) (vs : List V), PuAll ds = true → DpAll K H vs ds → DpAll K H' vs ds
  | [], _, _, .nil => .nil
  | d :: ds, _, p, .cons a b => by
    have q : (Pu d && PuAll ds) = true := p
    rw [Bool.and_eq_true] at q
    exact .cons (Dp.keep k d _ q.1 a) (DpAll.keep k ds _ q.2 b)
end
theorem _root_.Tq.dp_tup (h : Dp K H v (.tuple ds)) : ∃ p xs, v = .ref p ∧ SqT K H p xs ∧ DpAll K H xs ds := by
  cases h with
  | tup s a => exact ⟨_, _, rfl, s, a⟩
theorem _root_.Tq.dp_str {z : Str} (h : Dp K H v (.str z)) : v = .str z := by cases h; rfl
theorem _root_.Tq.dp_none (h : Dp K H v .none) : v = .non := by cases h; rfl
theorem _root_.Tq.dp_int {i : Int} (h : Dp K H v (.int i)) : v = .int i := by cases h; rfl
theorem _root_.Tq.dp_bool {b : Bool} (h : Dp K H v (.bool b)) : v = .bl b := by cases h; rfl
theorem DpAll.len : ∀ {xs : List V} {ds : List PyData}, DpAll K H xs ds → xs.length = ds.length
  | _, _, .nil => rfl
  | _, _, .cons _ b => congrArg (· + 1) b.len
theorem DpAll.at : ∀ {xs : List V} {ds : List PyData} {i : Nat} {x : V}, DpAll K H xs ds → xs[i]? = some x → ∃ d, ds[i]? = some d ∧ Dp K H x d
  | _, _, 0, _, .cons a _, h => by
    simp at h; subst h
    exact ⟨_, rfl, a⟩
  | _, _, i + 1, _, .cons _ b, h => by
    obtain ⟨d, e, q⟩ := DpAll.at (i := i) b (by simpa using h)
    exact ⟨d, by simpa using e, q⟩
theorem DpAll.of : ∀ {xs : List V} {ds : List PyData} {i : Nat} {d : PyData}, DpAll K H xs ds → ds[i]? = some d → ∃ x, xs[i]? = some x ∧ Dp K H x d
  | _, _, 0, _, .cons a _, h => by
    simp at h; subst h
    exact ⟨_, rfl, a⟩
  | _, _, i + 1, _, .cons _ b, h => by
    obtain ⟨d, e, q⟩ := DpAll.of (i := i) b (by simpa using h)
    exact ⟨d, by simpa using e, q⟩
theorem DpAll.snoc : ∀ {xs : List V} {ds : List PyData}, DpAll K H xs ds → Dp K H x d → DpAll K H (xs ++ [x]) (ds ++ [d])
  | _, _, .nil, h => .cons h .nil
  | _, _, .cons a b, h => .cons a (b.snoc h)
theorem DpAll.strs : ∀ {xs : List V} {zs : List Str}, DpAll K H xs (zs.map PyData.str) → xs = zs.map V.str
  | _, [], .nil => rfl
  | _, z :: zs, .cons a b => by rw [dp_str a, DpAll.strs b]; rfl
end
end L2
namespace Tq
open PySem PySem.Spec PyProof.Rows L2
/-! ### cells, rows, records [21] -/
inductive Cel where
  | null
  | txt (z : Str)
  | val (n : Str)
def Cel.d : Cel → PyData
  | .null => .none
  | .txt z => .str z
  | .val n => .tuple [.str n]
abbrev CRow := Option (List Cel)
def rowD : CRow → PyData
  | none => .none
  | some cs => .tuple (cs.map Cel.d)
def recD (R : List CRow) : PyData := .tuple (R.map rowD)
theorem cel_pu : ∀ c : Cel, Pu c.d = true
  | .null => rfl
  | .txt _ => rfl
  | .val _ => rfl
theorem cels_pu (cs : List Cel) : PuAll (cs.map Cel.d) = true := puAll_iff.mpr fun d m => by
  obtain ⟨c, _, rfl⟩ := List.mem_map.mp m
  exact cel_pu c
theorem row_pu : ∀ r : CRow, Pu (rowD r) = true
  | none => rfl
  | some cs => cels_pu cs
theorem rows_pu (R : List CRow) : PuAll (R.map rowD) = true := puAll_iff.mpr fun d m => by
  obtain ⟨c, _, rfl⟩ := List.mem_map.mp m
  exact row_pu c
theorem rec_pu (R : List CRow) : Pu (recD R) = true := rows_pu R
def Cel.txt? : Cel → Option Str
  | .txt z => some z
  | _ => none
def rowT (r : CRow) : List Str := (r.getD []).filterMap Cel.txt?
def recT (R : List CRow) : List Str := R.flatMap rowT
/-- how many cells -/
def celN (R : List CRow) : Nat := (R.map fun r => (r.getD []).length).sum
theorem recT_len (R : List CRow) : (recT R).length ≤ celN R := by
  unfold recT celN
  induction R with
  | nil => simp
  | cons r R ih =>
    rw [List.flatMap_cons, List.length_append, List.map_cons, List.sum_cons]
    have : (rowT r).length ≤ (r.getD []).length := List.length_filterMap_le ..
    omega
/-! ### the free texts -/
def fstep (fx : List Str) (acc : List Str) : Cel → List Str
  | .txt z => if z ∈ fx then acc else step1 acc z
  | _ => acc
def rowF (fx : List Str) (acc : List Str) (r : CRow) : List Str := (r.getD []).foldl (fstep fx) acc
def freeT (fx : List Str) (R : List CRow) : List Str := R.foldl (rowF fx) []
def tstep (fx : List Str) (acc : List Str) (z : Str) : List Str := if z ∈ fx then acc else step1 acc z
theorem row_fold (fx : List Str) : ∀ (cs : List Cel) (acc : List Str), cs.foldl (fstep fx) acc = (cs.filterMap Cel.txt?).foldl (tstep fx) acc
  | [], _ => rfl
  | .null :: r, acc => row_fold fx r acc
  | .val _ :: r, acc => row_fold fx r acc
  | .txt z :: r, acc => row_fold fx r (tstep fx acc z)
theorem freeT_eq (fx : List Str) (R : List CRow) : freeT fx R = (recT R).foldl (tstep fx) [] := by
  unfold freeT recT
  suffices h : ∀ (R : List CRow) (acc : List Str), R.foldl (rowF fx) acc = (R.flatMap rowT).foldl (tstep fx) acc from h R []
  intro R
  induction R with
  | nil => intro acc; rfl
  | cons r R ih =>
    intro acc
    rw [List.foldl_cons, ih, List.flatMap_cons, List.foldl_append]
    have e : rowF fx acc r = (rowT r).foldl (tstep fx) acc := row_fold fx _ acc
    rw [e]
theorem tstep_mem {fx acc : List Str} {z y : Str} : y ∈ tstep fx acc z ↔ y ∈ acc ∨ (y = z ∧ z ∉ fx) := by
  unfold tstep
  by_cases h : z ∈ fx
  · simp [h]
  · simp [h, step1_mem]
theorem tfold_mem {fx : List Str} : ∀ (zs acc : List Str) (y : Str), y ∈ zs.foldl (tstep fx) acc ↔ y ∈ acc ∨ (y ∈ zs ∧ y ∉ fx)
  | [], acc, y => by simp
  | z :: zs, acc, y => by
    rw [List.foldl_cons, tfold_mem zs, tstep_mem, List.mem_cons]
    constructor
    · rintro ((h | ⟨rfl, h⟩) | ⟨h, h2⟩)
      · exact .inl h
      · exact .inr ⟨.inl rfl, h⟩
      · exact .inr ⟨.inr h, h2⟩
    · rintro (h | ⟨h | h, h2⟩)
      · exact .inl (.inl h)
      · exact .inl (.inr ⟨h, h ▸ h2⟩)
      · exact .inr ⟨h, h2⟩
theorem tstep_nd {fx acc : List Str} {z : Str} (h : acc.Nodup) : (tstep fx acc z).Nodup := by
  unfold tstep
  split
  · exact h
  · exact step1_nd z h
theorem tfold_nd {fx : List Str} : ∀ (zs acc : List Str), acc.Nodup → (zs.foldl (tstep fx) acc).Nodup
  | [], _, h => h
  | _ :: zs, _, h => tfold_nd zs _ (tstep_nd h)
theorem tstep_len (fx acc : List Str) (z : Str) : (tstep fx acc z).length ≤ acc.length + 1 := by
  unfold tstep
  split
  · omega
  · exact step1_len acc z
theorem tfold_len {fx : List Str} : ∀ (zs acc : List Str), (zs.foldl (tstep fx) acc).length ≤ acc.length + zs.length
  | [], _ => by simp
  | z :: zs, acc => by
    have a := tfold_len (fx := fx) zs (tstep fx acc z)
    have b := tstep_len fx acc z
    rw [List.foldl_cons, List.length_cons]
    omega
theorem freeT_mem {fx : List Str} {R : List CRow} {y : Str} : y ∈ freeT fx R ↔ y ∈ recT R ∧ y ∉ fx := by
  rw [freeT_eq, tfold_mem]; simp
theorem freeT_nd (fx : List Str) (R : List CRow) : (freeT fx R).Nodup := by
  rw [freeT_eq]; exact tfold_nd _ _ List.nodup_nil
theorem freeT_len (fx : List Str) (R : List CRow) : (freeT fx R).length ≤ celN R := by
  rw [freeT_eq]
  have := tfold_len (fx := fx) (recT R) []
  have := recT_len R
  simp at *
  omega
theorem fstep_len (fx acc : List Str) (c : Cel) : (fstep fx acc c).length ≤ acc.length + 1 := by
  cases c with
  | txt z => exact tstep_len fx acc z
  | _ => exact Nat.le_succ _
theorem ffold_len {fx : List Str} : ∀ (cs : List Cel) (acc : List Str), (cs.foldl (fstep fx) acc).length ≤ acc.length + cs.length
  | [], _ => by simp
  | z :: zs, acc => by
    have a := ffold_len (fx := fx) zs (fstep fx acc z)
    have b := fstep_len fx acc z
    rw [List.foldl_cons, List.length_cons]
    omega
end Tq
namespace Tq
theorem celN_row {R : List CRow} {i : Nat} {cs : List Cel} (h : R[i]? = some (some cs)) : celN (R.take i) + cs.length ≤ celN R := by
  obtain ⟨l, e⟩ := List.getElem?_eq_some_iff.mp h
  have s : R = R.take i ++ R[i] :: R.drop (i + 1) := by rw [List.getElem_cons_drop, List.take_append_drop]
  rw [e] at s
  have : celN R = celN (R.take i) + (cs.length + celN (R.drop (i + 1))) := by
    conv => lhs; rw [s]
    unfold celN
    rw [List.map_append, List.sum_append]
    rfl
  omega
theorem celN_take (R : List CRow) (i : Nat) : celN (R.take i) ≤ celN R := by
  conv => rhs; rw [← List.take_append_drop i R]
  unfold celN
  rw [List.map_append, List.sum_append]
  omega
end Tq

namespace Tq
open PySem
def Cel.isT : Cel → Bool
  | .txt _ => true
  | _ => false
def Cel.ts : Cel → List Str
  | .txt z => [z]
  | _ => []
theorem take_ts {cs : List Cel} {j : Nat} {c : Cel} (h : cs[j]? = some c) : (cs.take (j + 1)).filterMap Cel.txt? = (cs.take j).filterMap Cel.txt? ++ c.ts := by
  rw [List.take_add_one, h, List.filterMap_append]
  cases c <;> rfl
theorem take_rowT {R : List CRow} {i : Nat} {r : CRow} (h : R[i]? = some r) : recT (R.take (i + 1)) = recT (R.take i) ++ rowT r := by
  rw [List.take_add_one, h]
  unfold recT
  rw [List.flatMap_append]
  simp
end Tq
namespace Tq
open PySem PySem.Spec PyProof.Rows L2
section
variable {prog : Program} {w : World} {A : Around} {E : Value → Shared → Prop} {s : Shared}
/-- tuple.__new__ of what can be gathered -/
theorem new_tup_of {T : String} {r d : Addr} {n : Nat} {Pv : Nat → Value → Prop} {OK : Heap → Prop} (S : PySem.W.KdlSrc prog w T r d n Pv OK) {Q₁ : Value → Shared → Prop} (calm : A.handled = none) (ok : OK s.heap) (few : n ≤ sizeLine)
    (k : ∀ (h' : Heap) (tk : Nat) (acc : Array Value), (∀ b o, s.heap.get? b = some o → h'.get? b = some o) → ItemsOf Pv acc n → Q₁ (.ref h'.objs.size) { s with heap := h'.push { cls := .type "tuple", data := .seq acc }, toks := tk }) :
    codeAny (model prog w) A (.call (.builtin "tuple.__new__") ⟨[.type "tuple", .ref r], []⟩) (wants Q₁ E) s := by
  refine codeAny_of_tree ?_
  show wpAny _ A.in1 (checkBuiltinCall "tuple.__new__" ⟨[.type "tuple", .ref r], []⟩ >>= fun _ => again (.builtin "tuple.__new__" ⟨[.type "tuple", .ref r], []⟩)) _ _ s
  refine wpAny_bind (wpAny_of_eq (F.newCall_tuple_1 _) (wpAny_pure ⟨plainId_quiet F.plain_tuple_new _, codeAny_builtin F.entry_tuple_new ?_⟩))
  rw [Around.under_plainId F.plain_tuple_new _]
  have q1 := sub_tuple_self; have q2 := init_tuple_lookup; have q3 := madeHere_tuple
  have ty : s.TypeIs (.ref r) T := S.type s ok
  have calm1 : A.in1.handled = none := calm
  wp_walk using wpAny_typeOf ty
  rw [if_neg (by rw [S.notTuple]; decide)]
  refine wpAny_bind (PySem.W.kdu_collect (A := A.in1) S calm1 ok few fun h' tk acc kp it => ?_)
  show wpAny _ _ (Builtin.Tuple.tupleExact acc.toList.toArray >>= fun v => ret v) _ _ _
  unfold Builtin.Tuple.tupleExact
  have e : acc.toList.toArray = acc := by simp
  rw [e]
  refine wpAny_bind (wpAny_newObj_type ?_ (by show acc.size ≤ sizeLine; rw [it.1]; exact few))
  exact wpAny_pure (k h' tk acc kp it)
theorem tup_of {T : String} {r d : Addr} {n : Nat} {Pv : Nat → Value → Prop} {OK : Heap → Prop} (S : PySem.W.KdlSrc prog w T r d n Pv OK) {Q : Value → Shared → Prop} (calm : A.handled = none) (ok : OK s.heap) (few : n ≤ sizeLine)
    (k : ∀ (h' : Heap) (tk : Nat) (acc : Array Value), (∀ b o, s.heap.get? b = some o → h'.get? b = some o) → ItemsOf Pv acc n → Q (.ref h'.objs.size) { s with heap := h'.push { cls := .type "tuple", data := .seq acc }, toks := tk }) :
    wpAny (model prog w) A (call (.type "tuple") [.ref r]) Q E s := by
  refine callType_codes (Q₁ := fun o z => z.TypeIs o "tuple" ∧ Q o z) F.called_tuple (F.typeCall_tuple_1 _) F.entry_object_init
    (new_tup_of (A := A.in1) S calm ok few fun h' tk acc kp it => ⟨⟨_, Heap.get?_push_size _ rfl, rfl⟩, k h' tk acc kp it⟩) fun o z hz => ?_
  exact ⟨hz.1, F.args_object_init_2 o _, object_init_meets F.called_tuple.init.lookup F.called_tuple.made (by decide) prog w A.in1 _ z ⟨hz.1, rfl, hz.2⟩⟩
end
/-- tuple(d): the keys -/
def rTupD : List V → Hp → VK → Prop := fun xs H Q => ∃ p kvs, xs = [.ref p] ∧ H p = some (.dK kvs) ∧ ∀ q, H q = none → Q (.ref q) (upd H q (.tup (kvs.map fun kv => kV kv.1)))
theorem c_tupD {X : Cx} (hc : X.calm = true) : CallR X (.type "tuple") rTupD := by
  intro pins s σ H xs us Q I r h
  obtain ⟨p, kvs, rfl, hk, q⟩ := h
  rw [Vals.ref1 r]
  obtain ⟨z, lo, vs, rk, hd⟩ := (show ObjOk X.prog X.w H s.heap p (.dK kvs) from I.hok p _ hk)
  obtain ⟨ep, hat⟩ := hd.dictAt
  have hl : kvs.length = vs.length := Paired.length rk
  refine tup_of (PySem.W.kdl_dict (knd := mixKind X.prog X.w) (kvs := vs) (ep := ep) lo) (I.ok.hd hc) hat (by rw [← hl]; exact z) fun h' tk acc kp it => ?_
  have I1 : Inv X pins σ H { s with heap := h', toks := tk } := I.kept kp
  have ml : (kvs.map fun kv => kV kv.1).length = kvs.length := List.length_map ..
  have vo : Vals (kvs.map fun kv => kV kv.1) acc.toList := by
    have al : acc.toList.length = vs.length := by simpa using it.1
    refine vals_of_at (by rw [ml, al, hl]) fun j x w h1 h2 => ?_
    obtain ⟨k, y, hky, hi⟩ := it.2 j w (by rw [← Array.getElem?_toList]; exact h2)
    have e1 : (kvs.map (·.1))[j]? = some k := by
      rw [KV.keys rk, List.getElem?_map, hky]; rfl
    have e3 : (kvs.map fun kv => kV kv.1) = (kvs.map (·.1)).map kV := by rw [List.map_map]; rfl
    rw [e3, List.getElem?_map, e1] at h1
    cases h1
    exact keyIs_rel hi
  refine ⟨.ref h'.objs.size, upd H h'.objs.size (.tup (kvs.map fun kv => kV kv.1)), I1.laid (t' := tk) (fun b u e => Heap.get?_push_of_some _ e) (Nat.le_refl _) ⟨by rw [ml]; exact z, acc.toList, vo, ?_⟩, rfl, q _ (I1.hok.fresh (Nat.le_refl _))⟩
  have := IsTup.new h' acc
  simpa using this
/-- texts as keys -/
def keysT (ks : List Str) : List (Key × V) := ks.map fun z => (Sum.inr z, V.bl true)
theorem keysT_put (ks : List Str) (z : Str) : putK (keysT ks) (Sum.inr z) (.bl true) = keysT (step1 ks z) := by
  unfold putK keysT step1
  have e : ((ks.map fun z => ((Sum.inr z : Key), V.bl true)).any fun kv => decide (kv.1 = Sum.inr z)) = decide (z ∈ ks) := by
    rw [List.any_map]
    by_cases m : z ∈ ks
    · rw [decide_eq_true m]
      exact List.any_eq_true.mpr ⟨z, m, by simp⟩
    · rw [decide_eq_false m]
      refine List.any_eq_false.mpr fun y hy c => m ?_
      have : y = z := by simpa using c
      exact this ▸ hy
  rw [e]
  by_cases m : z ∈ ks
  · rw [if_pos (decide_eq_true m), if_pos m, List.map_map]
    refine List.map_congr_left fun y _ => ?_
    simp only [Function.comp]
    by_cases e : y = z <;> simp [e]
  · rw [if_neg (by simp [m]), if_neg m, List.map_append]; rfl
theorem keysT_keys (ks : List Str) : ((keysT ks).map fun kv => kV kv.1) = ks.map V.str := by
  unfold keysT
  rw [List.map_map]; rfl
section
variable {X : Cx} {K : PySem.W.Frag} {H : Hp} {Q : VK} {i j : Int} {σ : L2.St} {a p : Addr} {x y v : V} {xs ys : List V} {ta tb te : TE}
theorem l_tupD {kvs : List (Key × V)} (h : H p = some (.dK kvs)) (q : ∀ r, H r = none → Q (.ref r) (upd H r (.tup (kvs.map fun kv => kV kv.1)))) : rTupD [.ref p] H Q := ⟨p, kvs, rfl, h, q⟩
theorem l_setD {ks : List Str} {z : Str} {R : Hp → Prop} (h : H p = some (.dK (keysT ks))) (few : ks.length < sizeLine) (q : R (upd H p (.dK (keysT (step1 ks z))))) : rSetD (.ref p) (.str z) (.bl true) H R := by
  refine ⟨p, _, rfl, DPut.k (k := Sum.inr z) h (by unfold keysT; rw [List.length_map]; exact few), ?_⟩
  rw [keysT_put]
  exact q
theorem l_orT (q : ta σ H fun x H1 => ∃ k, TruV K x H1 k ∧ if k = true then Q x H1 else tb σ H1 Q) : tOrT K ta tb σ H Q := q
theorem l_dnew (q : ∀ p, H p = none → Q (.ref p) (upd H p (.dK []))) : tDNewK σ H Q := q
end
section
variable {X : Cx} {K : PySem.W.Frag} {a b : Expr} {rest : List Expr} {ta tb : TE} {pos : Pos}
theorem k_orT (h : X.K = K) (ha : PE X a ta) (hb : PE X (.BoolOp .Or (b :: rest) pos) tb) : PE X (.BoolOp .Or (a :: b :: rest) pos) (tOrT K ta tb) := h ▸ pe_orT ha hb
end
end Tq
namespace Tq
open PySem PySem.Spec PyProof.Rows L2
/-! ### a list or tuple that is read -/
def Sq (K : PySem.W.Frag) (H : Hp) (p : Addr) (xs : List V) : Prop := SqL K H p xs ∨ SqT K H p xs
section
variable {X : Cx} {K : PySem.W.Frag} {H H' : Hp} {Q : VK} {t p : Addr} {x v : V} {xs ys : List V} {σ : L2.St} {ta tb : TE}
theorem Sq.but (h : Sq K H p xs) (b : But t H H') (n : p ≠ t) : Sq K H' p xs := by
  rcases h with h | h
  · exact .inl (b.seq n h)
  · exact .inr (b.seqT n h)
theorem Sq.same (h : Sq K H p xs) (b : Same H H') : Sq K H' p xs := by
  rcases h with h | h
  · exact .inl (b.seq h)
  · exact .inr (b.seqT h)
theorem l_lenX (h : Sq K H p ys) (q : Q (.int ys.length) H) : rLenQ K [.ref p] H Q := ⟨p, ys, rfl, h, q⟩
def rNotN' : R2 := fun x y H Q => y = .non ∧ Q (.bl (!decide (x = .non))) H
def rIsN' : R2 := fun x y H Q => y = .non ∧ Q (.bl (decide (x = .non))) H
theorem o_isN : OpR X (compareOp .Is) rIsN' := op_isN
theorem o_notN : OpR X (compareOp .IsNot) rNotN' := op_notN
theorem l_isN (q : Q (.bl (decide (x = .non))) H) : rIsN' x .non H Q := ⟨rfl, q⟩
theorem l_notN (q : Q (.bl (!decide (x = .non))) H) : rNotN' x .non H Q := ⟨rfl, q⟩
theorem l_cat {l b : Addr} {zs : List V} (h1 : H l = some (.lst xs)) (h2 : H b = some (.lst zs)) (n : xs.length + zs.length ≤ sizeLine) (q : ∀ r, H r = none → Q (.ref r) (upd H r (.lst (xs ++ zs)))) : rCat (.ref l) (.ref b) H Q := ⟨l, b, xs, zs, rfl, rfl, h1, h2, n, q⟩
/-- isinstance(cell, str) -/
theorem l_isCel {c : Cel} (h : Dp K H v c.d) (q : Q (.bl c.isT) H) : rIsi K [v, .ty "str"] H Q := by
  cases c with
  | null => rw [dp_none h]; exact l_isNS q
  | txt z => rw [dp_str h]; exact l_isSS q
  | val n =>
    obtain ⟨p, xs, rfl, s, _⟩ := dp_tup h
    exact l_isTS s q
/-- distinct texts in two lists -/
theorem few_names {ts tk : List Str} {z : Str} {n : Nat} (h : ∀ i, i + 1 < n → nm z i ∈ ts ++ tk) : n ≤ ts.length + tk.length + 1 := by
  have nd : ((List.range (n - 1)).map (nm z)).Nodup := List.Pairwise.map _ (fun a b (h : a ≠ b) e => h (nm_inj e)) List.nodup_range
  have sub : (List.range (n - 1)).map (nm z) ⊆ ts ++ tk := by
    intro y hy
    obtain ⟨i, hi, rfl⟩ := List.mem_map.mp hy
    exact h i (by have := List.mem_range.mp hi; omega)
  have l := List.Nodup.length_le_of_subset nd sub
  rw [List.length_map, List.length_range, List.length_append] at l
  omega
end
end Tq
namespace Tq
open PySem PySem.Spec PyProof.Rows L2
theorem Sq.but0 {K : PySem.W.Frag} {H H' : Hp} {p d : Addr} {xs : List V} (h : Sq K H p xs) (b : But d H H') (n : H d = none) : Sq K H' p xs := by
  have ne : ∀ {o : HO}, H p = some o → p ≠ d := fun e => ne_of_none e n
  rcases h with ((h | ⟨o, h⟩) | h) | ((h | ⟨o, h⟩) | h)
  · exact .inl (.inl (.inl (b _ _ (ne h) h)))
  · exact .inl (.inl (.inr ⟨o, b _ _ (ne h) h⟩))
  · exact .inl (.inr h)
  · exact .inr (.inl (.inl (b _ _ (ne h) h)))
  · exact .inr (.inl (.inr ⟨o, b _ _ (ne h) h⟩))
  · exact .inr (.inr h)
end Tq
namespace Tq
open PySem PySem.Spec PyProof.Rows L2
theorem But.free {t p : Addr} {H H' : Hp} (b : But t H H') (n : H' p = none) (ne : p ≠ t) : H p = none := by
  cases e : H p with
  | none => rfl
  | some o =>
    rw [b p o ne e] at n
    cases n
theorem sum_le {ks : List Int} {c : Int} (h : ∀ k ∈ ks, k ≤ c) : ks.sum ≤ c * ks.length := by
  induction ks with
  | nil => simp
  | cons k r ih =>
    have a := h k List.mem_cons_self
    have b := ih fun x m => h x (List.mem_cons_of_mem _ m)
    rw [List.sum_cons, List.length_cons, Int.natCast_add, Int.mul_add]
    omega
theorem take_sum {ks : List Int} {i : Nat} {k : Int} (h : ks[i]? = some k) : (ks.take (i + 1)).sum = (ks.take i).sum + k := by
  rw [List.take_add_one, h]
  simp
theorem celN_snoc (R : List CRow) (r : CRow) : celN (R ++ [r]) = celN R + (r.getD []).length := by
  unfold celN
  simp
theorem recT_snoc (R : List CRow) (r : CRow) : recT (R ++ [r]) = recT R ++ rowT r := by
  unfold recT
  simp
end Tq
namespace Tq
open PySem PySem.Spec PyProof.Rows L2
theorem l_nx {B : L2.St → Hp → Prop} {D : Ends} {σ : L2.St} {H : Hp} (q : B σ H) : ({ D with nx := B } : Ends).nx σ H := q
end Tq
namespace Tq
open PySem PySem.Spec PyProof.Rows L2
/-! ### a key of another kind -/
section
variable {prog : Program} {w : World} {A : Around} {E : Value → Shared → Prop} {s : Shared}
theorem key_byValue {k : Key} {v : Value} (h : keyIs k v = true) : carriedByValue v = true := by
  rcases keyIs_shape h with ⟨_, _, _, rfl⟩ | ⟨_, _, _, rfl⟩ <;> rfl
theorem key_noRef {k : Key} {v : Value} {a : Addr} (h : keyIs k v = true) : (v == Value.ref a) = false := by
  rcases keyIs_shape h with ⟨_, _, _, rfl⟩ | ⟨_, _, _, rfl⟩ <;> rfl
theorem isTuple_of {ks : List Key} {a : Addr} (h : (tupleKind (mixKind prog w)).is s.heap ks a) : ∃ items, s.heap.IsTuple a items := by
  obtain ⟨o, items, n, h1, h2, h3, _⟩ := h
  exact ⟨items, o, h1, h2, n, h3⟩
theorem find_miss {d a : Addr} {ob : Obj} {es : Array DictEntry} {ep : Nat} {ks : List Key} {n : Int} {Q : Option Nat → Shared → Prop} (hu : A.units < cLine)
    (hkey : (tupleKind (mixKind prog w)).is s.heap ks a) (ho : s.heap.get? d = some ob) (hd : ob.data = .dict es ep) (hk : ∀ e ∈ es, ∃ k, keyIs k e.key = true) (h : Q none s) :
    wpAny (model prog w) A (dictFind d (.ref a) n) Q E s := by
  have hst : ∀ v ∈ (placesWithHash es.size (fun i => es[i]?.map (·.hash)) n).filterMap (fun i => es[i]?.map (·.key)), ∃ k, keyIs k v = true := by
    intro v hv
    obtain ⟨i, _, hi⟩ := List.mem_filterMap.mp hv
    cases hei : es[i]? with
    | none => rw [hei] at hi; cases hi
    | some e =>
      rw [hei] at hi
      obtain rfl : e.key = v := by simpa using hi
      exact hk e (Array.mem_of_getElem? hei)
  have hany : ¬ (es.any fun e => e.key == Value.ref a && e.hash != n) = true := by
    rw [← Array.any_toList, List.any_eq_true]
    rintro ⟨e, hin, hc⟩
    obtain ⟨k, h1⟩ := hk e (Array.mem_toList_iff.mp hin)
    rw [key_noRef h1] at hc
    cases hc
  have hone : ¬ (((placesWithHash es.size (fun i => es[i]?.map (·.hash)) n).filterMap (fun i => es[i]?.map (·.key))) == [Value.ref a]) = true := by
    intro e
    have e2 := eq_of_beq e
    obtain ⟨k, h1⟩ := hst (.ref a) (by rw [e2]; exact List.mem_singleton.mpr rfl)
    have := key_noRef (a := a) h1
    rw [beq_self_eq_true] at this
    cases this
  have tell : ∀ {Q : Bool → Shared → Prop}, Q false s → wpAny (model prog w) A (tableMayTell (.ref a) ((placesWithHash es.size (fun i => es[i]?.map (·.hash)) n).filterMap (fun i => es[i]?.map (·.key)))) Q E s := by
    intro Q h
    unfold tableMayTell
    split
    · exact wpAny_pure h
    · refine wpAny_bind ((tupleKind (mixKind prog w)).quiet hkey ?_)
      simp only [Bool.not_true, Bool.false_eq_true, if_false]
      refine wpAny_bind ?_
      refine wpAny_forIn_list _ (fun rest r s' => s' = s ∧ r = (none, ()) ∧ ∀ v ∈ rest, carriedByValue v = true) _ ?_ ?_ _ _ ⟨rfl, rfl, fun v hv => by
        obtain ⟨k, h1⟩ := hst v hv
        exact key_byValue h1⟩
      · rintro x rest r s' ⟨rfl, rfl, hr⟩
        rw [eqIsQuiet_byValue _ (hr x List.mem_cons_self)]
        refine wpAny_bind (wpAny_pure ?_)
        simp only [Bool.not_true, Bool.false_eq_true, if_false]
        exact wpAny_pure ⟨rfl, rfl, fun v hv => hr v (List.mem_cons_of_mem _ hv)⟩
      · rintro r s' ⟨rfl, rfl, _⟩
        exact wpAny_pure h
  obtain ⟨items, ht⟩ := isTuple_of hkey
  unfold dictFind
  try with_reducible refine wpAny_holding ?_
  refine wpAny_bind (wpAny_dictEntries ho hd ?_)
  dsimp only
  rw [if_neg (show ¬ ((Value.ref a :: (placesWithHash es.size (fun i => es[i]?.map (·.hash)) n).filterMap (fun i => es[i]?.map (·.key))).all carriedByValue) = true by simp [carriedByValue])]
  rw [if_neg hany, if_neg hone]
  refine wpAny_bind (tell ?_)
  rw [if_neg (by simp)]
  refine wpAny_bind ?_
  refine wpAny_forIn_list _ (fun rest b s' => s' = s ∧ b = (none, none)) _ ?_ ?_ _ _ ⟨rfl, rfl⟩
  · rintro x rest b s' ⟨rfl, rfl⟩
    cases hex : es[x]? with
    | none => exact wpAny_pure ⟨rfl, rfl⟩
    | some e =>
      obtain ⟨k, h1⟩ := hk e (Array.mem_of_getElem? hex)
      dsimp only
      by_cases hh : (e.hash == n) = true
      · rw [if_pos hh]
        have ev : SeqAt.EqAt A s' e.key (.ref a) false := by
          rcases keyIs_shape h1 with ⟨i, t, _, e2⟩ | ⟨x, t, _, e2⟩
          · rw [e2]; exact .int_tuple i t ht hu
          · rw [e2]; exact .str_tuple x t ht hu
        refine wpAny_bind (wpAny_dictEpoch ho hd (wpAny_bind (ev _ _ _ _ (wpAny_bind (wpAny_dictEpoch ho hd ?_)))))
        show wpAny _ _ (if (ep != ep) = true then _ else _) _ E _
        rw [if_neg (by simp)]
        simp only [Bool.false_eq_true, if_false]
        refine wpAny_bind (wpAny_rule ?_)
        first | rw [if_neg (by simp)] | skip
        first
          | exact wpAny_pure ⟨rfl, rfl⟩
          | exact wpAny_bind (wpAny_pure (wpAny_pure ⟨rfl, rfl⟩))
      · rw [if_neg hh]
        exact wpAny_pure ⟨rfl, rfl⟩
  · rintro b s' ⟨rfl, rfl⟩
    exact wpAny_pure h
theorem get_miss {d a : Addr} {vs : List (Key × Value)} {ks : List Key} {Q : Option Value → Shared → Prop} (hu : A.units < cLine)
    (hkey : (tupleKind (mixKind prog w)).is s.heap ks a) (hm : s.heap.DictOf (mixKind prog w) d vs) (h : ∀ n, Q none { s with toks := s.toks + n }) :
    wpAny (model prog w) A (dictGet d (.ref a)) Q E s := by
  obtain ⟨o, es, ep, ho, _, hd, hk, _, _⟩ := hm
  unfold dictGet
  try with_reducible refine wpAny_holding ?_
  refine wpAny_bind ((tupleKind (mixKind prog w)).pyHash hu hkey (wpAny_bind (find_miss (s := { s with toks := s.toks + _ }) hu hkey ho hd (fun e he => ?_) ?_)))
  · obtain ⟨k, h1, _⟩ := hk e he
    exact ⟨k, h1⟩
  · exact wpAny_pure (h _)
theorem meets_miss {d a : Addr} (hd : (d == sysModules) = false) (dflt : Value) :
    MeetsIn prog w (Builtin.«dict.get» ⟨[.ref d, .ref a, dflt], []⟩) (fun A R s => A.in1.units < cLine ∧ ∃ ks vs, (tupleKind (mixKind prog w)).is s.heap ks a ∧ s.heap.DictOf (mixKind prog w) d vs ∧
      ∀ n, R (.ok (.ret dflt)) { s with toks := s.toks + n }) :=
  .of_wp fun A R s ⟨hu, ks, vs, hkey, hm, h⟩ => by
    show wpAny _ _ (dictGet d (.ref a) >>= _) _ _ s
    refine wpAny_bind (get_miss hu hkey hm fun n => ?_)
    show wpAny _ _ (Builtin.Dict.missed d (.ref a) >>= _) _ _ _
    exact wpAny_bind (wpAny_missed_other hd (wpAny_pure ⟨dflt, rfl, h n⟩))
end
end Tq
namespace Tq
open PySem PySem.Spec PyProof.Rows L2
/-! ### a tuple without attributes of its own: dict(t) reads it -/
def PlainT (h : Heap) (p : Addr) (xs : List V) : Prop := xs.length ≤ sizeLine ∧ ∃ its : List Value, Vals xs its ∧ ∃ n, h.get? p = some { cls := .type "tuple", data := .seq its.toArray n }
def TPO (p : Addr) (xs : List V) : HO := .ext fun h => PlainT h p xs
theorem tpo_new {w : World} {P : Program} {H : Hp} {h : Heap} {a : Addr} {xs : List V} (T : PlainT h a xs) : ObjOk P w H h a (TPO a xs) := by
  have ⟨_, its, _, n, g⟩ := T
  exact ⟨T, ⟨_, g⟩, fun _ _ ⟨z, its, r, n, g⟩ k => ⟨z, its, r, n, k _ g⟩⟩
def tTupP (tr : TA) : TE := fun σ H Q => tr σ H fun xs H1 => xs.length ≤ sizeLine ∧ ∀ p, H1 p = none → Q (.ref p) (upd H1 p (TPO p xs))
section
variable {X : Cx} {K : PySem.W.Frag} {H H1 : Hp} {Q : VK} {σ : L2.St} {a p : Addr} {x y v : V} {xs ys : List V} {ta tb te : TE} {tr : TA}
theorem pe_tupP {es : List Expr} {x1 : Pos} (h : PA X es tr) {k : Nat} : PE X (.Tuple es k x1) (tTupP tr) := by
  refine ⟨fun pins s σ H Q I hq => ?_⟩
  refine wpAny_Tuple_spliced (thn (h.run x1 pins s σ H _ I hq) fun us s1 ⟨xs, H1, I1, r, z, q⟩ => ⟨by rw [← r.length]; exact z, ?_⟩)
  have hf : H1 s1.heap.objs.size = none := I1.hok.fresh (Nat.le_refl _)
  refine ⟨.ref s1.heap.objs.size, upd H1 s1.heap.objs.size (TPO s1.heap.objs.size xs), I1.laid (t' := s1.toks) (fun b u e => Heap.get?_push_of_some _ e) (Nat.le_refl _) (tpo_new ?_), rfl, q _ hf⟩
  exact ⟨z, us, r, 0, Heap.get?_push_size _ rfl⟩
theorem l_tupP (q : tr σ H fun xs H1 => xs.length ≤ sizeLine ∧ ∀ p, H1 p = none → Q (.ref p) (upd H1 p (TPO p xs))) : tTupP tr σ H Q := q
/-- tuple(list), plain -/
def rTupP (K : PySem.W.Frag) : List V → Hp → VK → Prop := fun xs H Q => ∃ p ys, xs = [.ref p] ∧ SqL K H p ys ∧ ∀ l, H l = none → Q (.ref l) (upd H l (TPO l ys))
theorem c_tupP : CallR X (.type "tuple") (rTupP X.K) := by
  intro pins s σ H xs us Q I r h
  obtain ⟨p, ys, rfl, hq, q⟩ := h
  obtain ⟨u, rfl, rx⟩ := vals1 r
  cases rx
  obtain ⟨its, r', pl, hz⟩ := I.list hq
  have hlen := r'.length
  refine call_tuple_list pl.isList (fun h' kp => ?_) (by simp only [List.size_toArray] <;> omega)
  have I1 : Inv X pins σ H { s with heap := h' } := I.kept (t' := s.toks) kp
  have I2 : Inv X pins σ (upd H h'.objs.size (TPO h'.objs.size ys)) { s with heap := h'.push { cls := .type "tuple", data := .seq its.toArray } } :=
    I1.laid (t' := s.toks) (fun b o e => Heap.get?_push_of_some _ e) (Nat.le_refl _) (tpo_new ⟨hz, its, r', 0, Heap.get?_push_size _ rfl⟩)
  exact ⟨.ref h'.objs.size, _, I2, rfl, q _ (I1.hok.fresh (Nat.le_refl _))⟩
theorem k_tupP (h : X.K = K) : CallR X (.type "tuple") (rTupP K) := h ▸ c_tupP
/-- it is a tuple after all -/
theorem tpo_tup {pins : List (Addr × Obj)} {s : Shared} (I : Inv X pins σ H s) (g : H a = some (TPO a xs)) : Inv X pins σ (upd H a (.tup xs)) s := by
  have ⟨⟨z, its, r, n, e⟩, _⟩ := I.hok a _ g
  exact I.write (h' := s.heap) (t' := s.toks) (x := a) (e := a) (by rw [g]; trivial) (.inl rfl) (fun _ _ _ q => q) ⟨_, e⟩ ⟨z, its, r, _, e, rfl, _, rfl⟩
end
/-! ### dict(t) of a tuple of pairs -/
section
variable {X : Cx} {K : PySem.W.Frag} {H H1 : Hp} {Q : VK}
theorem pairs_at {pins : List (Addr × Obj)} {σ : L2.St} {H : Hp} {s : Shared} (I : Inv X pins σ H s) : ∀ {ps : List Addr} {kvs : List (Key × V)}, Paired (fun p kv => SqT X.K H p [kV kv.1, kv.2]) ps kvs →
    ∃ (prs : List (Key × Value)) (vps : List (Value × Value)), KV kvs prs ∧ prs.length = ps.length ∧ vps.length = ps.length ∧ ∀ (j : Nat) (k v : Value), vps[j]? = some (k, v) → ∃ b key, ps[j]? = some b ∧ PairAt s.heap b k v ∧ prs[j]? = some (key, v) ∧ keyIs key k = true
  | _, _, .nil => ⟨[], [], .nil, rfl, rfl, fun j k v e => by simp at e⟩
  | _, _, .cons (a := p) (b := kv) h t => by
    obtain ⟨prs, vps, r, hl, hl2, hp⟩ := pairs_at I t
    obtain ⟨its, rv, ht, _⟩ := I.tuple h
    obtain ⟨u, y, ei, ru, ry⟩ := vals2 rv
    subst ei
    refine ⟨(kv.1, y) :: prs, (u, y) :: vps, .cons ⟨rfl, ry⟩ r, by rw [List.length_cons, List.length_cons, hl], by rw [List.length_cons, List.length_cons, hl2], fun j k v e => ?_⟩
    cases j with
    | zero =>
      have e' : (u, y) = (k, v) := Option.some.inj e
      cases e'
      exact ⟨p, kv.1, rfl, .inl ht, rfl, kV_is (P := X.prog) (w := X.w) ru⟩
    | succ j =>
      obtain ⟨b, key, e1, e2, e3, e4⟩ := hp j k v (by simpa using e)
      exact ⟨b, key, by simpa using e1, e2, by simpa using e3, e4⟩
def rDictP (K : PySem.W.Frag) : List V → Hp → VK → Prop := fun xs H Q => ∃ (a : Addr) (ps : List Addr) (kvs : List (Key × V)), xs = [.ref a] ∧ H a = some (TPO a (ps.map V.ref)) ∧ Paired (fun p kv => SqT K H p [kV kv.1, kv.2]) ps kvs ∧
    ∀ p, H p = none → Q (.ref p) (upd (upd H a (.tup (ps.map V.ref))) p (.dK (mergeK [] kvs)))
theorem c_dictP (hcalm : X.calm = true) : CallR X (.type "dict") (rDictP X.K) := by
  intro pins s σ H xs us Q I r q
  obtain ⟨a, ps, kvs, ex, ha, hp, q⟩ := q
  subst ex
  obtain ⟨u, eu, rx⟩ := vals1 r
  subst eu
  cases rx
  obtain ⟨⟨hz, its, rv, n, hg⟩, _⟩ := I.hok a _ ha
  have ei := refs_at rv
  subst ei
  rw [List.length_map] at hz
  obtain ⟨prs, vps, rel, hl, hl2, hpr⟩ := pairs_at I hp
  have P := PairArg.tuple (prog := X.prog) (w := X.w) a (ps.map Value.ref).toArray (fun j => ps[j]?.getD 0) vps
  have I0 := tpo_tup I ha
  refine PySem.call_dict_pairs (knd := mixKind X.prog X.w) (kvs := prs) P (I.ok.hd hcalm) ⟨⟨_, _, hg, rfl, rfl, rfl⟩, by simp [hl2], fun j k v e => ?_⟩ ⟨hl.trans hl2.symm, fun j k v e => ?_⟩ (by rw [hl2]; exact hz) fun h' tk hd' kp => ?_
  · obtain ⟨b, key, e1, e2, e3, e4⟩ := hpr j k v e
    simp only [e1, Option.getD_some]
    exact ⟨by simp [e1], e2⟩
  · obtain ⟨b, key, e1, e2, e3, e4⟩ := hpr j k v e
    exact ⟨key, e3, e4⟩
  · have hm : (s.heap.objs.size == sysModules) = false := beq_eq_false_iff_ne.mpr (Nat.ne_of_gt I.big)
    have hlen : (mergeK [] kvs).length ≤ sizeLine := by
      refine Nat.le_trans (length_mergeK kvs []) ?_
      rw [List.length_nil, Nat.zero_add, rel.length, hl]
      exact hz
    exact ⟨.ref s.heap.objs.size, upd (upd H a (.tup (ps.map V.ref))) s.heap.objs.size (.dK (mergeK [] kvs)), I0.laid (t' := tk) (fun b o e => kp b o (by simp) e) (Nat.le_refl _) (show ObjOk X.prog X.w _ _ _ (.dK (mergeK [] kvs)) from ⟨hlen, hm, merged [] prs, KV.merge rel .nil, hd'⟩), rfl, q _ (I.hok.fresh (Nat.le_refl _))⟩
theorem k_dictP (h : X.K = K) (hc : X.calm = true) : CallR X (.type "dict") (rDictP K) := h ▸ c_dictP hc
end
/-! ### d.get(c, c), c any cell -/
def GetC (K : PySem.W.Frag) (H : Hp) (a : Addr) (y : V) (o : Option V) : Prop := DGet H a y o ∨ ((∃ kvs, Rd H a (.dK kvs)) ∧ o = none ∧ (y = .non ∨ ∃ p, ∃ ks : List Key, y = .ref p ∧ SqT K H p (ks.map kV)))
def tGetC (K : PySem.W.Frag) (td ty tx : TE) : TE := fun σ H Q => td σ H fun x H1 => ∃ a, x = .ref a ∧ IsD H1 a ∧ ty σ H1 fun y H2 => tx σ H2 fun z H3 => ∃ o, GetC K H3 a y o ∧ Q (o.getD z) H3
section
variable {X : Cx} {pins : List (Addr × Obj)} {σ : L2.St} {H : Hp} {s : Shared} {a : Addr} {y d : V} {u r : Value} {o : Option V} {A : Around} {E : Value → Shared → Prop}
theorem d_getC {Q : Value → Shared → Prop} (hu : A.units + 1 < cLine) (I : Inv X pins σ H s) (g : GetC X.K H a y o) (ry : RelV y u) (rd : RelV d r) (h : ∀ w' s', Inv X pins σ H s' → RelV (o.getD d) w' → Q w' s') :
    wpAny (model X.prog X.w) A (call (.builtin "dict.get") [.ref a, u, r]) Q E s := by
  rcases g with g | ⟨⟨kvs, e⟩, rfl, e2⟩
  · exact d_get2 hu I g ry rd h
  · obtain ⟨z, hd, vs, rel, dd⟩ := dk_rd I.hok e
    rcases e2 with rfl | ⟨p, ks, rfl, hs⟩
    · obtain rfl : u = Value.none := ry
      obtain ⟨f, hm, hf⟩ := none_map dd
      refine call_meetsIn PySem.F.slot_dict_get dd.typeIs PySem.F.entry_dict_get (PySem.F.args_dict_get_3 _ _ _) (meets_dict_get_default (noneKind X.prog X.w) a (show (noneKind X.prog X.w).is none .none = true from rfl) hd r) ⟨_, hm, h _ _ (I.tok _) ?_⟩
      rw [hf]
      exact rd
    · cases (show u = Value.ref p from ry)
      obtain ⟨its, rv, ⟨ob, h1, h2, n, h3⟩, _⟩ := I.tuple hs
      have key : (tupleKind (mixKind X.prog X.w)).is s.heap ks p := ⟨ob, its.toArray, n, h1, h2, h3, by simpa using items_are rv⟩
      exact call_meetsIn PySem.F.slot_dict_get dd.typeIs PySem.F.entry_dict_get (PySem.F.args_dict_get_3 _ _ _) (meets_miss hd r) ⟨(show A.in1.units < cLine from tupleKind_room_in1 (knd := mixKind X.prog X.w) hu), ks, vs, key, dd, fun n => h _ _ (I.tok _) rd⟩
end
section
variable {X : Cx} {K : PySem.W.Frag} {o e f : Expr} {apos cpos : Pos} {td ty tx : TE}
theorem pe_getC (hu : X.A.units + 1 < cLine) (ho : PE X o td) (he : PE X e ty) (hf : PE X f tx) (m : M2 X o "get" apos e f cpos) : PE X (.Call (.Attribute o "get" apos) [e, f] [] cpos) (tGetC X.K td ty tx) := by
  refine ⟨fun pins s σ H Q I h => ?_⟩
  refine wpAny_Call_method m.base m.few m.line PySem.F.plainAttrs_dict PySem.F.slot_dict_get PySem.F.type_dict_get (thn (ho.run pins s σ H _ I h) fun u s1 ⟨x, H1, I1, rx, a, ex, d, q1⟩ => ?_)
  subst ex
  obtain rfl : u = Value.ref a := rx
  obtain ⟨t1, t2, _⟩ := isD_at I1 d
  refine ⟨t1, t2, ?_⟩
  rw [m.trees]
  refine Calls.callWith_builtin rfl (Calls.evalArgs_plain (Calls.spliced_cons (thn (he.run pins s1 σ H1 _ I1 q1) fun iv s2 ⟨y, H2, I2, ry, q2⟩ =>
    Calls.spliced_cons (thn (hf.run pins s2 σ H2 _ I2 q2) fun fv s3 ⟨z, H3, I3, rz, ov, g, q3⟩ => Calls.spliced_nil ?_))))
  exact d_getC hu I3 g ry rz fun w' s4 I4 rw' => ⟨_, H3, I4, rw', q3⟩
theorem k_getC (h : X.K = K) (hu : X.A.units + 1 < cLine) (ho : PE X o td) (he : PE X e ty) (hf : PE X f tx) (m : M2 X o "get" apos e f cpos) : PE X (.Call (.Attribute o "get" apos) [e, f] [] cpos) (tGetC K td ty tx) := h ▸ pe_getC hu ho he hf m
end
end Tq
namespace Tq
open PySem PySem.Spec PyProof.Rows L2
/-! ### what stands in a record -/
def four : List Str := ["active", "v1", "x", "c1"]
def Good (zs : List Str) : Cel → Prop
  | .null => True
  | .txt z => z ∈ zs
  | .val n => n ∈ four
def GoodR (zs : List Str) (R : List CRow) : Prop := ∀ r ∈ R, ∀ c ∈ r.getD [], Good zs c
theorem GoodR.texts {zs : List Str} {R : List CRow} (h : GoodR zs R) : ∀ z ∈ recT R, z ∈ zs := by
  intro z hz
  obtain ⟨r, hr, h2⟩ := List.mem_flatMap.mp hz
  obtain ⟨c, hc, h3⟩ := List.mem_filterMap.mp h2
  have g := h r hr c hc
  cases c with
  | txt y => cases h3; exact g
  | _ => cases h3
def CelOk : Cel → Bool
  | .null => true
  | .txt z => PyData.strOk z
  | .val n => PyData.strOk n
def RecOk (R : List CRow) : Prop := ∀ r ∈ R, ∀ c ∈ r.getD [], CelOk c = true
theorem four_ok : ∀ n ∈ four, PyData.strOk n = true := by decide +kernel
theorem GoodR.ok {zs : List Str} {R : List CRow} (h : GoodR zs R) (o : ∀ z ∈ zs, PyData.strOk z = true) : RecOk R := fun r hr c hc => by
  have g := h r hr c hc
  cases c with
  | null => rfl
  | txt z => exact o z g
  | val n => exact four_ok n g
theorem canAll : ∀ {ds : List PyData}, (∀ d ∈ ds, d.canLay0 = true) → PyData.canLayAll0 ds = true
  | [], _ => rfl
  | d :: ds, h => by
    show (d.canLay0 && PyData.canLayAll0 ds) = true
    rw [h d List.mem_cons_self, canAll fun x m => h x (List.mem_cons_of_mem _ m)]; rfl
theorem depthLe {n : Nat} : ∀ {ds : List PyData}, (∀ d ∈ ds, d.depth ≤ n) → PyData.depthAll ds ≤ n
  | [], _ => Nat.zero_le _
  | d :: ds, h => by
    show max d.depth (PyData.depthAll ds) ≤ n
    have a := h d List.mem_cons_self
    have b := depthLe (ds := ds) fun x m => h x (List.mem_cons_of_mem _ m)
    omega
theorem cel_can {c : Cel} (h : CelOk c = true) : c.d.canLay0 = true ∧ c.d.depth ≤ 1 := by
  cases c with
  | null => exact ⟨rfl, Nat.zero_le _⟩
  | txt z => exact ⟨h, Nat.zero_le _⟩
  | val n =>
    refine ⟨?_, Nat.le_refl _⟩
    show (PyData.strOk n && true) = true
    rw [show PyData.strOk n = true from h]; rfl
theorem row_can {r : CRow} (h : ∀ c ∈ r.getD [], CelOk c = true) : (rowD r).canLay0 = true ∧ (rowD r).depth ≤ 2 := by
  cases r with
  | none => exact ⟨rfl, Nat.zero_le _⟩
  | some cs =>
    have a : ∀ d ∈ cs.map Cel.d, d.canLay0 = true ∧ d.depth ≤ 1 := fun d m => by
      obtain ⟨c, hc, rfl⟩ := List.mem_map.mp m
      exact cel_can (h c hc)
    refine ⟨canAll fun d m => (a d m).1, ?_⟩
    show PyData.depthAll (cs.map Cel.d) + 1 ≤ 2
    have := depthLe (n := 1) fun d m => (a d m).2
    omega
theorem rec_can {R : List CRow} (h : RecOk R) : (recD R).canLay0 = true ∧ (recD R).depth ≤ 3 := by
  have a : ∀ d ∈ R.map rowD, d.canLay0 = true ∧ d.depth ≤ 2 := fun d m => by
    obtain ⟨r, hr, rfl⟩ := List.mem_map.mp m
    exact row_can (h r hr)
  refine ⟨canAll fun d m => (a d m).1, ?_⟩
  show PyData.depthAll (R.map rowD) + 1 ≤ 3
  have := depthLe (n := 2) fun d m => (a d m).2
  omega
theorem rec_shaped {R : List CRow} (h : RecOk R) : SeqAt.shaped (recD R) = true := by
  have ⟨a, b⟩ := rec_can h
  show (PyData.canLayAll0 (R.map rowD) && decide (PyData.depthAll (R.map rowD) + 1 ≤ 64)) = true
  have a2 : PyData.canLayAll0 (R.map rowD) = true := a
  have b2 : PyData.depthAll (R.map rowD) + 1 ≤ 3 := b
  rw [a2, decide_eq_true (by omega)]; rfl
section
variable {K : PySem.W.Frag} {H : Hp} {Q : VK} {x y : V} {R : List CRow}
theorem l_neSame (o : RecOk R) (h1 : Dp K H x (recD R)) (h2 : Dp K H y (recD R)) (q : Q (.bl false) H) : rNeD K x y H Q := ⟨_, _, h1, h2, rec_shaped o, rec_shaped o, by rw [PySem.SeqAt.eqv_refl _ (rec_can o).1]; exact q⟩
theorem l_eqSame (o : RecOk R) (h1 : Dp K H x (recD R)) (h2 : Dp K H y (recD R)) (q : Q (.bl true) H) : rEqD K x y H Q := ⟨_, _, h1, h2, rec_shaped o, rec_shaped o, by rw [PySem.SeqAt.eqv_refl _ (rec_can o).1]; exact q⟩
end
/-! ### dicts of texts -/
def dicT (prs : List (Str × Str)) : List (Key × V) := mergeK [] (prs.map fun p => (Sum.inr p.1, V.str p.2))
def look (prs : List (Str × Str)) (z : Str) : Option Str := prs.foldl (fun o p => if z = p.1 then some p.2 else o) none
theorem valV_mergeK : ∀ (more kvs : List (Key × V)) (k : Key), valV (mergeK kvs more) k = more.foldl (fun o p => if k = p.1 then some p.2 else o) (valV kvs k)
  | [], _, _ => rfl
  | p :: r, kvs, k => by
    show valV (mergeK (putK kvs p.1 p.2) r) k = _
    rw [valV_mergeK r, valV_put]; rfl
theorem valV_dicT (prs : List (Str × Str)) (z : Str) : valV (dicT prs) (Sum.inr z) = (look prs z).map V.str := by
  unfold dicT look
  rw [valV_mergeK, List.foldl_map]
  suffices h : ∀ (prs : List (Str × Str)) (o : Option Str), prs.foldl (fun (o : Option V) (p : Str × Str) => if (Sum.inr z : Key) = Sum.inr p.1 then some (V.str p.2) else o) (o.map V.str) = (prs.foldl (fun o p => if z = p.1 then some p.2 else o) o).map V.str from h prs none
  intro prs
  induction prs with
  | nil => intro o; rfl
  | cons p r ih =>
    intro o
    rw [List.foldl_cons, List.foldl_cons]
    by_cases e : z = p.1
    · rw [if_pos e, if_pos (congrArg Sum.inr e)]
      exact ih (some p.2)
    · rw [if_neg e, if_neg (fun h => e (Sum.inr.inj h))]
      exact ih o
theorem dicT_snoc (prs : List (Str × Str)) (a b : Str) : dicT (prs ++ [(a, b)]) = putK (dicT prs) (Sum.inr a) (V.str b) := by
  unfold dicT mergeK
  rw [List.map_append, List.foldl_append]; rfl
theorem dicT_len (prs : List (Str × Str)) : (dicT prs).length ≤ prs.length := by
  have := length_mergeK (prs.map fun p => ((Sum.inr p.1 : Key), V.str p.2)) []
  rw [List.length_map] at this
  have e : (dicT prs).length ≤ 0 + prs.length := this
  omega
/-! ### texts replaced -/
def Cel.sub (f : Str → Option Str) : Cel → Cel
  | .txt z => .txt ((f z).getD z)
  | c => c
def rowSub (f : Str → Option Str) (r : CRow) : CRow := r.map fun cs => cs.map (Cel.sub f)
def recSub (f : Str → Option Str) (R : List CRow) : List CRow := R.map (rowSub f)
theorem rowSub_len (f : Str → Option Str) (r : CRow) : ((rowSub f r).getD []).length = (r.getD []).length := by
  cases r with
  | none => rfl
  | some cs => exact List.length_map ..
theorem celN_sub (f : Str → Option Str) (R : List CRow) : celN (recSub f R) = celN R := by
  unfold celN recSub
  rw [List.map_map]
  congr 1
  exact List.map_congr_left fun r _ => rowSub_len f r
theorem recSub_ok {f : Str → Option Str} {R : List CRow} (h : RecOk R) (o : ∀ z y, f z = some y → PyData.strOk y = true) : RecOk (recSub f R) := by
  intro r hr c hc
  obtain ⟨r0, h0, rfl⟩ := List.mem_map.mp hr
  cases r0 with
  | none => cases hc
  | some cs =>
    obtain ⟨c0, hc0, rfl⟩ := List.mem_map.mp (show c ∈ cs.map (Cel.sub f) from hc)
    have g := h _ h0 c0 hc0
    cases c0 with
    | null => rfl
    | val n => exact g
    | txt z =>
      show PyData.strOk ((f z).getD z) = true
      cases e : f z with
      | none => exact g
      | some y => exact o z y e
theorem recSub_two {f : Str → Option Str} (h : ∀ z, (f ((f z).getD z)).getD ((f z).getD z) = z) (R : List CRow) : recSub f (recSub f R) = R := by
  unfold recSub
  rw [List.map_map]
  conv => rhs; rw [← List.map_id R]
  refine List.map_congr_left fun r _ => ?_
  cases r with
  | none => rfl
  | some cs =>
    show some ((cs.map (Cel.sub f)).map (Cel.sub f)) = some cs
    rw [List.map_map]
    congr 1
    conv => rhs; rw [← List.map_id cs]
    refine List.map_congr_left fun c _ => ?_
    cases c with
    | txt z => exact congrArg Cel.txt (h z)
    | _ => rfl
theorem swap_two (a b z : Str) : (look [(a, b), (b, a)] ((look [(a, b), (b, a)] z).getD z)).getD ((look [(a, b), (b, a)] z).getD z) = z := by
  have l : ∀ z, look [(a, b), (b, a)] z = if z = b then some a else if z = a then some b else none := fun z => rfl
  rw [l z]
  by_cases h1 : z = b
  · rw [if_pos h1]
    show (look _ a).getD a = z
    rw [l a]
    by_cases h2 : a = b
    · rw [if_pos h2, h1]; exact h2
    · rw [if_neg h2, if_pos rfl, h1]; rfl
  · rw [if_neg h1]
    by_cases h2 : z = a
    · rw [if_pos h2]
      show (look _ b).getD b = z
      rw [l b, if_pos rfl, h2]; rfl
    · rw [if_neg h2]
      show (look _ z).getD z = z
      rw [l z, if_neg h1, if_neg h2]; rfl
theorem look_ok {prs : List (Str × Str)} {p : Str → Prop} (h : ∀ q ∈ prs, p q.2) {z y : Str} (e : look prs z = some y) : p y := by
  unfold look at e
  suffices g : ∀ (prs : List (Str × Str)) (o : Option Str), (∀ q ∈ prs, p q.2) → (∀ y, o = some y → p y) → ∀ y, prs.foldl (fun o q => if z = q.1 then some q.2 else o) o = some y → p y from g prs none h (fun y e => nomatch e) y e
  intro prs
  induction prs with
  | nil => intro o _ ho y e; exact ho y e
  | cons q r ih =>
    intro o hq ho y e
    rw [List.foldl_cons] at e
    refine ih _ (fun x m => hq x (List.mem_cons_of_mem _ m)) (fun y e2 => ?_) y e
    split at e2
    · cases e2; exact hq q List.mem_cons_self
    · exact ho y e2
/-! ### steps -/
section
variable {K : PySem.W.Frag} {H H1 : Hp} {Q : VK} {σ : L2.St} {a p : Addr} {x y v : V} {td ty tx : TE} {prs : List (Str × Str)}
theorem l_getC0 (q : td σ H fun x H1 => ∃ a, x = .ref a ∧ IsD H1 a ∧ ty σ H1 fun y H2 => tx σ H2 fun z H3 => ∃ o, GetC K H3 a y o ∧ Q (o.getD z) H3) : tGetC K td ty tx σ H Q := q
theorem l_dg0 (q : td σ H fun x H1 => ty σ H1 fun y H2 => ∃ a v, x = .ref a ∧ DGet H2 a y (some v) ∧ Q v H2) : tDGet td ty σ H Q := q
theorem l_din0 (q : ty σ H fun y H1 => td σ H1 fun x H2 => ∃ a o, x = .ref a ∧ DGet H2 a y o ∧ Q (.bl o.isSome) H2) : tDIn ty td σ H Q := q
theorem l_get {c : Cel} (h : H a = some (.dK (dicT prs))) (hc : Dp K H v c.d) (q : ∀ v', Dp K H v' (c.sub (look prs)).d → Q v' H) : ∃ o, GetC K H a v o ∧ Q (o.getD v) H := by
  cases c with
  | null =>
    rw [dp_none hc] at *
    exact ⟨none, .inr ⟨⟨_, .inl h⟩, rfl, .inl rfl⟩, q _ .non⟩
  | txt z =>
    rw [dp_str hc] at *
    refine ⟨valV (dicT prs) (Sum.inr z), .inl (DGet.k (k := Sum.inr z) h), ?_⟩
    rw [valV_dicT]
    have e : ((look prs z).map V.str).getD (.str z) = .str ((look prs z).getD z) := by cases look prs z <;> rfl
    rw [e]
    exact q _ (.str _)
  | val n =>
    obtain ⟨p, xs, rfl, s, al⟩ := dp_tup hc
    have ex : xs = [n].map V.str := DpAll.strs (zs := [n]) al
    subst ex
    exact ⟨none, .inr ⟨⟨_, .inl h⟩, rfl, .inr ⟨p, [Sum.inr n], rfl, s⟩⟩, q _ (.tup s al)⟩
theorem l_din {z : Str} (h : H a = some (.dK (dicT prs))) (q : Q (.bl (look prs z).isSome) H) : ∃ b o, V.ref a = .ref b ∧ DGet H b (.str z) o ∧ Q (.bl o.isSome) H := by
  refine ⟨a, valV (dicT prs) (Sum.inr z), rfl, DGet.k (k := Sum.inr z) h, ?_⟩
  rw [valV_dicT, Option.isSome_map]
  exact q
theorem l_dg {z u : Str} (h : H a = some (.dK (dicT prs))) (e : look prs z = some u) (q : Q (.str u) H) : ∃ b v, V.ref a = .ref b ∧ DGet H b (.str z) (some v) ∧ Q v H :=
  ⟨a, .str u, rfl, by have g := DGet.k (H := H) (a := a) (k := Sum.inr z) h; rw [valV_dicT, e] at g; exact g, q⟩
theorem l_setDS {z u : Str} {R : Hp → Prop} (h : H p = some (.dK (dicT prs))) (few : prs.length < sizeLine) (q : R (upd H p (.dK (dicT (prs ++ [(z, u)]))))) : rSetD (.ref p) (.str z) (.str u) H R := by
  refine ⟨p, _, rfl, DPut.k (k := Sum.inr z) h (Nat.lt_of_le_of_lt (dicT_len prs) few), ?_⟩
  rw [← dicT_snoc]
  exact q
end
end Tq
namespace Tq
open PySem PySem.Spec PyProof.Rows L2
theorem TK.butN {H H' : Hp} {g : Addr} (b : But g H H') (n : H g = none) : TK H H' := fun c ys r => by
  have nc : c ≠ g := by
    rintro rfl
    rcases r with r | ⟨o, r⟩ <;> rw [n] at r <;> cases r
  rcases r with r | ⟨o, r⟩
  · exact .inl (b _ _ nc r)
  · exact .inr ⟨o, b _ _ nc r⟩
theorem row_le {R : List CRow} {i : Nat} {r : CRow} (h : R[i]? = some r) : (r.getD []).length ≤ celN R := by
  cases r with
  | none => exact Nat.zero_le _
  | some cs =>
    have := celN_row h
    show cs.length ≤ _
    omega
end Tq
namespace Tq
open PySem PySem.Spec PyProof.Rows L2
theorem dg_at {H : Hp} {a : Addr} {prs : List (Str × Str)} {z : Str} (h : H a = some (.dK (dicT prs))) : DGet H a (.str z) ((look prs z).map V.str) := by
  rw [← valV_dicT]
  exact DGet.k (k := Sum.inr z) h
theorem dg_some {H : Hp} {a : Addr} {prs : List (Str × Str)} {z u : Str} (h : H a = some (.dK (dicT prs))) (e : look prs z = some u) : DGet H a (.str z) (some (V.str u)) := by
  have g := dg_at (z := z) h
  rw [e] at g
  exact g
end Tq
namespace Tq
open PySem PySem.Spec PyProof.Rows L2
theorem seqIx {n : Int} {k : Nat} (h0 : 0 ≤ n) (h1 : n < k) : seqIndex? n k = some n.toNat := by
  have e : ¬ n < 0 := by omega
  simp [seqIndex?, e, h0, h1]
theorem map_erase {α β : Type} (f : α → β) (l : List α) (i : Nat) : (l.map f).eraseIdx i = (l.eraseIdx i).map f := by
  rw [List.eraseIdx_eq_take_drop_succ, List.eraseIdx_eq_take_drop_succ, List.map_append, List.map_take, List.map_drop]
theorem erase_perm {α : Type} {l : List α} {i : Nat} {z : α} (h : l[i]? = some z) : (z :: l.eraseIdx i).Perm l := by
  obtain ⟨hl, e⟩ := List.getElem?_eq_some_iff.mp h
  have s : l = l.take i ++ z :: l.drop (i + 1) := by rw [← e, List.getElem_cons_drop, List.take_append_drop]
  conv => rhs; rw [s]
  rw [List.eraseIdx_eq_take_drop_succ]
  exact List.perm_middle.symm
theorem cut_hi {xs : List V} {n : Int} (h0 : 0 ≤ n) (h1 : n ≤ xs.length) : cutV xs none (some n) = xs.take n.toNat := by
  unfold cutV
  have e1 : HT.sIx xs.length 0 none = 0 := rfl
  have e2 : HT.sIx xs.length xs.length (some n) = n.toNat := by
    show (if n < 0 then (n + (xs.length : Int)).toNat else min n.toNat xs.length) = _
    rw [if_neg (by omega)]; omega
  rw [e1, e2]; rfl
theorem cut_lo {xs : List V} {n : Int} (h0 : 0 ≤ n) (h1 : n ≤ xs.length) : cutV xs (some n) none = xs.drop n.toNat := by
  unfold cutV
  have e1 : HT.sIx xs.length xs.length none = xs.length := rfl
  have e2 : HT.sIx xs.length 0 (some n) = n.toNat := by
    show (if n < 0 then (n + (xs.length : Int)).toNat else min n.toNat xs.length) = _
    rw [if_neg (by omega)]; omega
  rw [e1, e2]
  exact List.take_of_length_le (by rw [List.length_drop]; omega)
section
variable {K : PySem.W.Frag} {H H1 : Hp} {Q : VK} {σ : L2.St} {a p : Addr} {x y v : V} {xs : List V} {te ti : TE} {tl th : TO}
theorem l_sl0 {r : V → Option Int → Option Int → Hp → VK → Prop} (q : te σ H fun x H1 => tl σ H1 fun l H2 => th σ H2 fun u H3 => r x l u H3 Q) : tSl r te tl th σ H Q := q
theorem l_slL {lo hi : Option Int} (h : SqL K H p xs) (q : ∀ r, H r = none → Q (.ref r) (upd H r (.lst (cutV xs lo hi)))) : rSlL K (.ref p) lo hi H Q := ⟨p, xs, rfl, h, q⟩
theorem l_slT {lo hi : Option Int} (h : SqT K H p xs) (c : ¬ (HT.sIx xs.length 0 lo = 0 ∧ HT.sIx xs.length xs.length hi = xs.length)) (q : ∀ r, H r = none → Q (.ref r) (upd H r (.tup (cutV xs lo hi)))) : rSlT K (.ref p) lo hi H Q := ⟨p, xs, rfl, h, c, q⟩
theorem dp_txts (l : List Str) : DpAll K H (l.map V.str) ((l.map Cel.txt).map Cel.d) := by
  have e : (l.map Cel.txt).map Cel.d = l.map PyData.str := by rw [List.map_map]; rfl
  rw [e]
  exact dp_texts l
end
end Tq
namespace Tq
open PySem PySem.Spec PyProof.Rows L2
section
variable {H : Hp} {σ : L2.St} {te : TE} {R : Option Int → Hp → Prop}
theorem l_np (q : R none H) : tNoPart σ H R := q
theorem l_part (q : te σ H fun x H1 => ∃ i, x = .int i ∧ R (some i) H1) : tPart te σ H R := q
theorem sIx_at {n d : Nat} {i : Int} (h0 : 0 ≤ i) (h1 : i ≤ n) : HT.sIx n d (some i) = i.toNat := by
  show (if i < 0 then (i + (n : Int)).toNat else min i.toNat n) = _
  rw [if_neg (by omega)]; omega
end
end Tq
namespace Tq
open PySem PySem.Spec PyProof.Rows L2
theorem Tape.butp {H H' : Hp} {t a p : Addr} (h : Tape H t a) (b : But p H H') (n1 : p ≠ t) (n2 : p ≠ a) : Tape H' t a := by
  obtain ⟨ns, q, c, d, n', h1, h2, h3, h4, h5⟩ := h
  exact ⟨ns, q, c, d, n', h1, h2, h3, b _ _ n2.symm h4, b _ _ n1.symm h5⟩
/-- the pairs at ps -/
def PairsT (K : PySem.W.Frag) (H : Hp) (ps : List Addr) (prs : List (Str × Str)) : Prop := Paired (fun p kv => SqT K H p [kV kv.1, kv.2]) ps (prs.map fun p => ((Sum.inr p.1 : Key), V.str p.2))
theorem PairsT.keep {K : PySem.W.Frag} {H H' : Hp} (k : TK H H') : ∀ {ps : List Addr} {prs : List (Str × Str)}, PairsT K H ps prs → PairsT K H' ps prs := by
  intro ps prs h
  unfold PairsT at *
  generalize prs.map (fun p => ((Sum.inr p.1 : Key), V.str p.2)) = l at h
  induction h with
  | nil => exact .nil
  | cons a _ ih => exact .cons (k.sq a) ih
theorem PairsT.snoc {K : PySem.W.Frag} {H : Hp} {ps : List Addr} {prs : List (Str × Str)} {p : Addr} {a b : Str} (h : PairsT K H ps prs) (s : SqT K H p [V.str a, V.str b]) : PairsT K H (ps ++ [p]) (prs ++ [(a, b)]) := by
  unfold PairsT at *
  rw [List.map_append]
  exact Paired.snoc h s
theorem PairsT.len {K : PySem.W.Frag} {H : Hp} {ps : List Addr} {prs : List (Str × Str)} (h : PairsT K H ps prs) : ps.length = prs.length := by
  unfold PairsT at h
  have e := Paired.length h
  rw [List.length_map] at e
  exact e
theorem PairsT.at {K : PySem.W.Frag} {H : Hp} : ∀ {ps : List Addr} {prs : List (Str × Str)} {i : Nat} {p : Addr}, PairsT K H ps prs → ps[i]? = some p → ∃ a b, prs[i]? = some (a, b) ∧ SqT K H p [V.str a, V.str b]
  | [], [], i, p, _, e => by simp at e
  | q :: ps, (a, b) :: prs, 0, p, h, e => by
    have h2 : Paired (fun p (kv : Key × V) => SqT K H p [kV kv.1, kv.2]) (q :: ps) (((Sum.inr a : Key), V.str b) :: prs.map fun p => ((Sum.inr p.1 : Key), V.str p.2)) := h
    cases h2 with
    | cons s _ =>
      simp at e; subst e
      exact ⟨a, b, rfl, s⟩
  | q :: ps, (a, b) :: prs, i + 1, p, h, e => by
    have h2 : Paired (fun p (kv : Key × V) => SqT K H p [kV kv.1, kv.2]) (q :: ps) (((Sum.inr a : Key), V.str b) :: prs.map fun p => ((Sum.inr p.1 : Key), V.str p.2)) := h
    cases h2 with
    | cons _ t =>
      obtain ⟨x, y, h3, h4⟩ := PairsT.at (i := i) (ps := ps) (prs := prs) t (by simpa using e)
      exact ⟨x, y, by simpa using h3, h4⟩
  | _ :: _, [], _, _, h, _ => by cases (show Paired _ (_ :: _) [] from h)
  | [], _ :: _, _, _, _, e => by simp at e
theorem zip_back : ∀ prs : List (Str × Str), (prs.map (·.1)).zip (prs.map (·.2)) = prs
  | [] => rfl
  | p :: r => by
    rw [List.map_cons, List.map_cons, List.zip_cons_cons, zip_back r]
theorem rsub_len (f : Str → Option Str) (R : List CRow) : (recSub f R).length = R.length := List.length_map ..
end Tq
namespace Tq
open PySem PySem.Spec PyProof.Rows L2
section
variable {prog : Program} {w : World} {A : Around} {E : Value → Shared → Prop} {s : Shared}
/-- a zip of two tuples gives its next pair, an earlier pair being still in use -/
theorem zt_step {z TI TO T i1 i2 l1 l2 : Addr} {f : Bool} {oT : Obj} {k1 k2 : Nat} {xs ys : Array Value} {x y : Value} {Q : Option Value → Shared → Prop} (D : ZipApart z TI TO i1 i2 l1 l2)
    (hz : IsZipHeld s.heap z TI TO T f) (hT : s.heap.get? T = some oT) (hTI : IsPair s.heap TI (.ref i1) (.ref i2)) (h1 : s.heap.IsTupleIter i1 l1 k1) (h2 : s.heap.IsTupleIter i2 l2 k2)
    (hl1 : s.heap.IsTuple l1 xs) (hl2 : s.heap.IsTuple l2 ys) (hx : xs[k1]? = some x) (hy : ys[k2]? = some y)
    (hQ : ∀ h', IsZipHeld h' z TI TO T true → h'.IsTupleIter i1 l1 (k1 + 1) → h'.IsTupleIter i2 l2 (k2 + 1) → IsPair h' s.heap.objs.size x y → h'.objs.size = s.heap.objs.size + 1 →
      (∀ c o, c ≠ z → c ≠ i1 → c ≠ i2 → s.heap.get? c = some o → h'.get? c = some o) → Q (some (.ref s.heap.objs.size)) { s with heap := h' }) : wpAny (model prog w) A (pyNext (.ref z)) Q E s := by
  have ty : s.TypeIs (.ref z) "zip" := ⟨_, hz, rfl⟩
  unfold pyNext
  refine wpAny_bind (wpAny_attempt (wpAny_callSpecial?_slot (name := Str.ofString "__next__") ty F.slot_zip_next (wpAny_call_entry F.slot_zip_next ty F.entry_zip_next ?_ (F.args_zip_next_1 _))))
  show wpAny _ _ (field (.ref z) 2 >>= _) _ _ _
  refine wpAny_bind (wpAny_field hz rfl (x := .bool false) rfl ?_); show wpAny _ _ (field (.ref z) 3 >>= _) _ _ _
  refine wpAny_bind (wpAny_field hz rfl (x := .ref TI) rfl (wpAny_bind (wpAny_seqItems hTI rfl ?_)))
  show wpAny _ _ (Builtin.SmallTypes.ownedTupleIsFree (.ref z) >>= _) _ _ _
  refine wpAny_bind (wpAny_tupleHeld_zip hz hT fun g1 hz1 e1 => ?_)
  simp only [Bool.false_eq_true, if_false]; refine wpAny_bind ?_
  rw [← Array.forIn_toList]; simp only [List.forIn_cons, List.forIn_nil]
  refine wpAny_bind (wpAny_bind (wpAny_holding ?_)); show wpAny _ _ (Builtin.SmallTypes.nextOf (.ref i1) >>= _) _ _ _
  refine wpAny_bind (RZ.nextOf_tuple_item (s := { s with heap := g1 }) (h1.extBut e1.extBut D.i1z) (hl1.extBut e1.extBut D.l1z) hx fun g2 p1 e2 => wpAny_pure (wpAny_pure ?_))
  refine wpAny_bind (wpAny_bind (wpAny_holding ?_)); show wpAny _ _ (Builtin.SmallTypes.nextOf (.ref i2) >>= _) _ _ _
  refine wpAny_bind (RZ.nextOf_tuple_item (s := { s with heap := g2 }) ((h2.extBut e1.extBut D.i2z).extBut e2.extBut D.i12.symm) ((hl2.extBut e1.extBut D.l2z).extBut e2.extBut D.l2i1) hy fun g3 p2 e3 => wpAny_pure (wpAny_pure (wpAny_pure ?_)))
  show wpAny _ _ (newTuple [x, y] >>= _) _ _ _
  refine wpAny_bind (wpAny_newTuple (wpAny_pure ⟨_, rfl, wpAny_pure ?_⟩))
  show Q (some (.ref g3.objs.size)) _
  have sz : g3.objs.size = s.heap.objs.size := by rw [e3.1, e2.1, e1.1]
  have hz3 : IsZipHeld g3 z TI TO T true := e3.extBut _ _ D.i2z.symm (e2.extBut _ _ D.i1z.symm hz1)
  have pr : IsPair (g3.push { cls := .type "tuple", data := .seq #[x, y] }) g3.objs.size x y := Heap.get?_push_size _ rfl
  have sz4 : (g3.push { cls := .type "tuple", data := .seq #[x, y] }).objs.size = g3.objs.size + 1 := Heap.size_push ..
  rw [sz] at pr sz4 ⊢
  exact hQ _ (Heap.get?_push_of_some _ hz3) ((p1.extBut e3.extBut D.i12).at fun o e => Heap.get?_push_of_some _ e) (p2.at fun o e => Heap.get?_push_of_some _ e) pr sz4
    fun c o c1 c2 c3 e => Heap.get?_push_of_some _ (e3.extBut _ _ c3 (e2.extBut _ _ c2 (e1.extBut _ _ c1 e)))
/-- .. or ends -/
theorem zt_stop {z TI TO T i1 i2 l1 l2 : Addr} {f : Bool} {oT : Obj} {k1 k2 : Nat} {xs ys : Array Value} {Q : Option Value → Shared → Prop} (hh : A.handled = none) (D : ZipApart z TI TO i1 i2 l1 l2)
    (hz : IsZipHeld s.heap z TI TO T f) (hT : s.heap.get? T = some oT) (hTI : IsPair s.heap TI (.ref i1) (.ref i2)) (h1 : s.heap.IsTupleIter i1 l1 k1) (hl1 : s.heap.IsTuple l1 xs) (hx : xs[k1]? = none)
    (hQ : ∀ h', (∀ c o, c ≠ z → c ≠ i1 → s.heap.get? c = some o → h'.get? c = some o) → Q none { s with heap := h' }) : wpAny (model prog w) A (pyNext (.ref z)) Q E s := by
  have ty : s.TypeIs (.ref z) "zip" := ⟨_, hz, rfl⟩
  unfold pyNext
  refine wpAny_bind (wpAny_attempt (wpAny_callSpecial?_slot (name := Str.ofString "__next__") ty F.slot_zip_next (wpAny_call_entry F.slot_zip_next ty F.entry_zip_next ?_ (F.args_zip_next_1 _))))
  show wpAny _ _ (field (.ref z) 2 >>= _) _ _ _
  refine wpAny_bind (wpAny_field hz rfl (x := .bool false) rfl ?_); show wpAny _ _ (field (.ref z) 3 >>= _) _ _ _
  refine wpAny_bind (wpAny_field hz rfl (x := .ref TI) rfl (wpAny_bind (wpAny_seqItems hTI rfl ?_)))
  show wpAny _ _ (Builtin.SmallTypes.ownedTupleIsFree (.ref z) >>= _) _ _ _
  refine wpAny_bind (wpAny_tupleHeld_zip hz hT fun g1 hz1 e1 => ?_)
  simp only [Bool.false_eq_true, if_false]; refine wpAny_bind ?_
  rw [← Array.forIn_toList]; simp only [List.forIn_cons, List.forIn_nil]
  refine wpAny_bind (wpAny_bind (wpAny_holding ?_)); show wpAny _ _ (Builtin.SmallTypes.nextOf (.ref i1) >>= _) _ _ _
  refine wpAny_bind (RZ.nextOf_tuple_end (s := { s with heap := g1 }) hh (h1.extBut e1.extBut D.i1z) (hl1.extBut e1.extBut D.l1z) hx fun g2 e e2 he => ?_)
  obtain ⟨o, ho, hc⟩ := he
  refine wpAny_bind (wpAny_isInstance (T := "StopIteration") (b := true) ⟨o, ho, hc⟩ isSubtype_stop ?_)
  exact wpAny_pure (hQ _ fun c o c1 c2 x => e2 _ _ c2 (e1.extBut _ _ c1 x))
end
end Tq
namespace Tq
open PySem PySem.Spec PyProof.Rows L2
/-- the places that a zip of two tuples uses -/
structure ZP where
  z : Addr
  TI : Addr
  TO : Addr
  i1 : Addr
  i2 : Addr
  l1 : Addr
  l2 : Addr
/-- what the walk writes, and where it gathers -/
def ZP.W (p : ZP) (S : Addr) : List Addr := [S, p.z, p.TO, p.i1, p.i2]
structure ZSt (p : ZP) (S : Addr) (xs ys : Array Value) (i : Nat) (h : Heap) : Prop where
  a1 : h.IsTupleIter p.i1 p.l1 i
  a2 : h.IsTupleIter p.i2 p.l2 i
  b1 : h.IsTuple p.l1 xs
  b2 : h.IsTuple p.l2 ys
  ti : IsPair h p.TI (.ref p.i1) (.ref p.i2)
  to_ : ∃ o, h.get? p.TO = some o
  at_ : (i = 0 ∧ IsZip h p.z p.TI p.TO .none ∧ IsPair h p.TO .none .none) ∨ ∃ T f oT, IsZipHeld h p.z p.TI p.TO T f ∧ h.get? T = some oT ∧ T ∉ p.W S
structure ZOff (p : ZP) (S : Addr) : Prop where
  D : ZipApart p.z p.TI p.TO p.i1 p.i2 p.l1 p.l2
  sz : S ≠ p.z
  sTI : S ≠ p.TI
  sTO : S ≠ p.TO
  s1 : S ≠ p.i1
  s2 : S ≠ p.i2
  t1 : S ≠ p.l1
  t2 : S ≠ p.l2
theorem ZSt.keep {p : ZP} {S : Addr} {xs ys : Array Value} {i : Nat} {h h' : Heap} (x : ZSt p S xs ys i h) (O : ZOff p S) (k : ∀ b o, b ≠ S → h.get? b = some o → h'.get? b = some o) : ZSt p S xs ys i h' where
  a1 := x.a1.at fun o e => k _ o O.s1.symm e
  a2 := x.a2.at fun o e => k _ o O.s2.symm e
  b1 := x.b1.at fun o e => k _ o O.t1.symm e
  b2 := x.b2.at fun o e => k _ o O.t2.symm e
  ti := k _ _ O.sTI.symm x.ti
  to_ := x.to_.imp fun o e => k _ o O.sTO.symm e
  at_ := by
    rcases x.at_ with ⟨e, h1, h2⟩ | ⟨T, f, oT, h1, h2, h3⟩
    · exact .inl ⟨e, k _ _ O.sz.symm h1, k _ _ O.sTO.symm h2⟩
    · exact .inr ⟨T, f, oT, k _ _ O.sz.symm h1, k _ _ (fun e => h3 (by rw [e]; exact List.mem_cons_self)) h2, h3⟩
section
variable {prog : Program} {w : World} {A : Around} {E : Value → Shared → Prop} {s : Shared} {p : ZP} {S : Addr} {xs ys : Array Value}
theorem ZSt.low {i : Nat} {h : Heap} (x : ZSt p S xs ys i h) (hS : S < h.objs.size) : ∀ b ∈ p.W S, b < h.objs.size := by
  intro b hb
  obtain ⟨o1, e1, _⟩ := x.a1
  obtain ⟨o2, e2, _⟩ := x.a2
  have zz : (∃ o, h.get? p.z = some o) := by
    rcases x.at_ with ⟨e, h1, h2⟩ | ⟨T, f, oT, h1, h2, h3⟩
    · exact ⟨_, h1⟩
    · exact ⟨_, h1⟩
  obtain ⟨oz, ez⟩ := zz
  unfold ZP.W at hb
  obtain ⟨oT, eT⟩ := x.to_
  simp only [List.mem_cons, List.not_mem_nil, or_false] at hb
  rcases hb with e | e | e | e | e
  · rw [e]; exact hS
  · rw [e]; exact Heap.lt_size ez
  · rw [e]; exact Heap.lt_size eT
  · rw [e]; exact Heap.lt_size e1
  · rw [e]; exact Heap.lt_size e2
theorem zt_next {i : Nat} {x y : Value} {Q : Option Value → Shared → Prop} (st : ZSt p S xs ys i s.heap) (O : ZOff p S) (new : s.heap.objs.size ∉ p.W S) (hx : xs[i]? = some x) (hy : ys[i]? = some y)
    (hQ : ∀ h', ZSt p S xs ys (i + 1) h' → IsPair h' s.heap.objs.size x y → (∀ c o, c ∉ [p.z, p.TO, p.i1, p.i2] → s.heap.get? c = some o → h'.get? c = some o) → Q (some (.ref s.heap.objs.size)) { s with heap := h' }) : wpAny (model prog w) A (pyNext (.ref p.z)) Q E s := by
  rcases st.at_ with ⟨e, h1, h2⟩ | ⟨T, f, oT, h1, h2, h3⟩
  · refine RZ.pyNext_zipT_item O.D h1 st.ti h2 st.a1 st.a2 st.b1 st.b2 hx hy fun h' c1 c2 c3 c4 c5 c6 c7 => hQ h' ?_ c5 fun c o m e => c7 c o (fun e => m (by simp [e])) (fun e => m (by simp [e])) (fun e => m (by simp [e])) (fun e => m (by simp [e])) e
    exact ⟨c3, c4, st.b1.at fun o e => c7 _ o O.D.l1z O.D.l1TO O.D.l1i1 O.D.l1i2 e, st.b2.at fun o e => c7 _ o O.D.l2z O.D.l2TO O.D.l2i1 O.D.l2i2 e, c7 _ _ O.D.TIz O.D.TITO O.D.TIi1 O.D.TIi2 st.ti, ⟨_, c2⟩, .inr ⟨_, false, _, c1, c5, new⟩⟩
  · have m : ∀ b, b ∈ [p.z, p.TO, p.i1, p.i2] → T ≠ b := fun b hb e => h3 (by rw [e]; exact List.mem_cons_of_mem _ hb)
    refine zt_step O.D h1 h2 st.ti st.a1 st.a2 st.b1 st.b2 hx hy fun h' c1 c3 c4 c5 c6 c7 => hQ h' ?_ c5 fun c o m e => c7 c o (fun e => m (by simp [e])) (fun e => m (by simp [e])) (fun e => m (by simp [e])) e
    exact ⟨c3, c4, st.b1.at fun o e => c7 _ o O.D.l1z O.D.l1i1 O.D.l1i2 e, st.b2.at fun o e => c7 _ o O.D.l2z O.D.l2i1 O.D.l2i2 e, c7 _ _ O.D.TIz O.D.TIi1 O.D.TIi2 st.ti, st.to_.imp fun o e => c7 _ o O.D.TOz O.D.TOi1 O.D.TOi2 e, .inr ⟨T, true, oT, c1, c7 _ _ (m _ (by simp)) (m _ (by simp)) (m _ (by simp)) h2, h3⟩⟩
theorem zt_end {i : Nat} {Q : Option Value → Shared → Prop} (hh : A.handled = none) (st : ZSt p S xs ys i s.heap) (O : ZOff p S) (hx : xs[i]? = none)
    (hQ : ∀ h', (∀ c o, c ∉ [p.z, p.TO, p.i1, p.i2] → s.heap.get? c = some o → h'.get? c = some o) → Q none { s with heap := h' }) : wpAny (model prog w) A (pyNext (.ref p.z)) Q E s := by
  rcases st.at_ with ⟨e, h1, h2⟩ | ⟨T, f, oT, h1, h2, h3⟩
  · exact RZ.pyNext_zipT_end hh O.D h1 st.ti h2 st.a1 st.a2 st.b1 st.b2 (.inl hx) fun h' c7 => hQ h' fun c o m e => c7 c o (fun e => m (by simp [e])) (fun e => m (by simp [e])) (fun e => m (by simp [e])) (fun e => m (by simp [e])) e
  · exact zt_stop (k2 := 0) (ys := #[]) hh O.D h1 h2 st.ti st.a1 st.b1 hx fun h' c7 => hQ h' fun c o m e => c7 c o (fun e => m (by simp [e])) (fun e => m (by simp [e])) e
/-- the pairs so far -/
structure ZG (p : ZP) (S : Addr) (xs ys : Array Value) (h : Heap) (as : List Addr) : Prop where
  off : ∀ a ∈ as, a ∉ p.W S
  low : ∀ a ∈ as, p.i1 < a
  nd : as.Nodup
  pairs : ∀ (j : Nat) (a : Addr), as[j]? = some a → ∃ x y, xs[j]? = some x ∧ ys[j]? = some y ∧ IsPair h a x y
theorem ZG.at_ {h h' : Heap} {as : List Addr} (g : ZG p S xs ys h as) (k : ∀ b o, b ∉ p.W S → h.get? b = some o → h'.get? b = some o) : ZG p S xs ys h' as :=
  ⟨g.off, g.low, g.nd, fun j a e => by
    obtain ⟨x, y, h1, h2, h3⟩ := g.pairs j a e
    exact ⟨x, y, h1, h2, k _ _ (g.off a (List.mem_of_getElem? e)) h3⟩⟩
theorem zt_loop {R : Result → Shared → Prop} {h0 : Heap} (hh : A.handled = none) (O : ZOff p S) (same : xs.size = ys.size) (few : xs.size ≤ sizeLine) (res : Value)
    (hR : ∀ h' tk acc c as, (∀ b o, b ∉ p.W S → h0.get? b = some o → h'.get? b = some o) → h'.get? S = some { cls := .type "list", dict := none, data := .seq acc c, slots := #[] } → as.length = xs.size → ZG p S xs ys h' as → acc.toList = as.map Value.ref →
      R (.ok (.ret res)) { s with heap := h', toks := tk }) :
    ∀ (k i : Nat) (h : Heap) (tk c : Nat) (acc : Array Value) (as : List Addr), xs.size - i = k → i ≤ xs.size → ZSt p S xs ys i h → (∀ b o, b ∉ p.W S → h0.get? b = some o → h.get? b = some o) →
      h.get? S = some { cls := .type "list", dict := none, data := .seq acc c, slots := #[] } → acc.toList = as.map Value.ref → as.length = i → ZG p S xs ys h as →
      codeAny (model prog w) A (.builtin "list.extend.loop" ⟨[.ref S, .ref p.z, res], []⟩) R { s with heap := h, toks := tk } := by
  have mS : S ∉ [p.z, p.TO, p.i1, p.i2] := by
    simp only [List.mem_cons, List.not_mem_nil, or_false, not_or]
    exact ⟨O.sz, O.sTO, O.s1, O.s2⟩
  have mW : ∀ b, b ∉ p.W S → b ∉ [p.z, p.TO, p.i1, p.i2] := fun b hb m => hb (List.mem_cons_of_mem _ m)
  intro k
  induction k with
  | zero =>
    intro i h tk c acc as hk hi st keep hS ha al g
    refine codeAny_builtin PySem.F.entry_extend_loop ?_; rw [Around.under_plainId PySem.F.plain_extend_loop _]
    show wpAny _ A.in1 (pyNext (.ref p.z) >>= _) _ _ _
    refine wpAny_bind (zt_end (s := { s with heap := h, toks := tk }) (A := A.in1) hh st O (Array.getElem?_eq_none (by omega)) fun h' e => ?_)
    exact wpAny_pure (hR h' tk acc c as (fun b o hb q => e b o (mW b hb) (keep b o hb q)) (e _ _ mS hS) (by omega) (g.at_ fun b o hb q => e b o (mW b hb) q) ha)
  | succ k ih =>
    intro i h tk c acc as hk hi st keep hS ha al g
    have lt : i < xs.size := by omega
    have hx : xs[i]? = some xs[i] := Array.getElem?_eq_getElem lt
    have hy : ys[i]? = some (ys[i]'(by omega)) := Array.getElem?_eq_getElem (by omega)
    have as_ : acc.size = i := by rw [← Array.length_toList, ha, List.length_map, al]
    have new : h.objs.size ∉ p.W S := fun m => Nat.lt_irrefl _ (st.low (Heap.lt_size hS) _ m)
    refine codeAny_builtin PySem.F.entry_extend_loop ?_; rw [Around.under_plainId PySem.F.plain_extend_loop _]
    show wpAny _ A.in1 (pyNext (.ref p.z) >>= _) _ _ _
    refine wpAny_bind (zt_next (s := { s with heap := h, toks := tk }) st O new hx hy fun h' st' pr e => ?_)
    dsimp only at pr e ⊢
    have hS' := e _ _ mS hS
    have up : ∀ b o, b ≠ S → h'.get? b = some o → (h'.update S (Obj.mapSeq (·.push (Value.ref h.objs.size)))).get? b = some o := fun b o hb q => (Heap.get?_update_other _ _ (Ne.symm hb)).trans q
    have bS : ∀ b, b ∉ p.W S → b ≠ S := fun b hb q => hb (by rw [q]; exact List.mem_cons_self)
    show wpAny _ A.in1 (updateSeq S (·.push (Value.ref h.objs.size)) >>= _) _ _ _
    refine wpAny_bind (wpAny_updateSeq hS' rfl (wpAny_pure ⟨plainId_quiet PySem.F.plain_extend_loop _, ih (i + 1) _ tk _ (acc.push (Value.ref h.objs.size)) (as ++ [h.objs.size]) (by omega) lt (st'.keep O up)
      (fun b o hb q => up b o (bS b hb) (e b o (mW b hb) (keep b o hb q))) (Heap.get?_update_self _ hS' rfl) (by rw [Array.toList_push, ha, List.map_append]; rfl) (by rw [List.length_append, al]; rfl) ⟨fun a ma => ?_, fun a ma => ?_, ?_, fun j a hj => ?_⟩⟩) (by rw [as_]; omega) (by show (acc.push (Value.ref h.objs.size)).size ≤ sizeLine + 1; rw [Array.size_push, as_]; omega))
    · rcases List.mem_append.mp ma with ma | ma
      · exact g.off a ma
      · rw [List.mem_singleton.mp ma]; exact new
    · rcases List.mem_append.mp ma with ma | ma
      · exact g.low a ma
      · rw [List.mem_singleton.mp ma]; exact st.low (Heap.lt_size hS) _ (by unfold ZP.W; simp)
    · rw [List.nodup_append]
      refine ⟨g.nd, by simp, fun a ma b mb e => ?_⟩
      rw [List.mem_singleton.mp mb] at e
      obtain ⟨j, hj⟩ := List.mem_iff_getElem?.mp ma
      obtain ⟨x, y, _, _, e3⟩ := g.pairs j a hj
      exact Nat.lt_irrefl _ (e ▸ Heap.lt_size e3)
    · rcases Nat.lt_trichotomy j as.length with q | q | q
      · rw [List.getElem?_append_left q] at hj
        obtain ⟨x, y, e1, e2, e3⟩ := g.pairs j a hj
        have oa := g.off a (List.mem_of_getElem? hj)
        exact ⟨x, y, e1, e2, up _ _ (bS a oa) (e _ _ (mW a oa) e3)⟩
      · subst q
        have ea : h.objs.size = a := by simpa using hj
        subst ea
        exact ⟨_, _, by rw [al]; exact hx, by rw [al]; exact hy, up _ _ (bS _ new) pr⟩
      · rw [List.getElem?_eq_none (by rw [List.length_append, List.length_singleton]; omega)] at hj
        cases hj
end
end Tq
namespace Tq
open PySem PySem.Spec PyProof.Rows L2
def ZN (T : String) : Prop := T = "zip"
theorem zip_len : typeLookup (.type "zip") "__len__" = pure none := am_miss_of_fast (by first | decide +kernel | rfl)
theorem zip_hint : typeLookup (.type "zip") "__length_hint__" = pure none := am_miss_of_fast (by first | decide +kernel | rfl)
section
variable {prog : Program} {w : World} {A : Around} {E : Value → Shared → Prop} {s : Shared} {p : ZP} {S : Addr} {xs ys : Array Value}
theorem hint_zip {z : Addr} {Q : Bool → Shared → Prop} (ty : s.TypeIs (.ref z) "zip") (h : Q true s) : wpAny (model prog w) A (Builtin.List.listLengthHint (.ref z)) Q E s := by
  unfold Builtin.List.listLengthHint
  refine wpAny_bind (wpAny_specialOf ty zip_len ?_)
  exact wpAny_bind (wpAny_specialOf ty zip_hint (wpAny_pure h))
theorem zt_extend {res : Value} {c0 : Nat} {R : Result → Shared → Prop} (hh : A.handled = none) (O : ZOff p S) (same : xs.size = ys.size) (few : xs.size ≤ sizeLine)
    (st : ZSt p S xs ys 0 s.heap) (hz : IsZip s.heap p.z p.TI p.TO .none) (hS : s.heap.get? S = some { cls := .type "list", data := .seq #[] c0 })
    (hR : ∀ h' tk acc c as, (∀ b o, b ∉ p.W S → s.heap.get? b = some o → h'.get? b = some o) → h'.get? S = some { cls := .type "list", dict := none, data := .seq acc c, slots := #[] } → as.length = xs.size → ZG p S xs ys h' as → acc.toList = as.map Value.ref →
      R (.ok (.ret res)) { s with heap := h', toks := tk }) :
    wpAny (model prog w) A.in1 (Builtin.List.listExtendWith (.ref S) (.ref p.z) res)
      (fun fin s' => match fin with | .done f => R (.ok f) s' | .again c' => c'.quiet = true ∧ codeAny (model prog w) A c' R s') (fun e s' => R (.error e) s') s := by
  have ty : s.TypeIs (.ref p.z) "zip" := ⟨_, hz, rfl⟩
  have bS : ∀ b, b ∉ p.W S → b ≠ S := fun b hb q => hb (by rw [q]; exact List.mem_cons_self)
  have key : ∀ (h : Heap) (c1 tk : Nat), (∀ b o, b ≠ S → s.heap.get? b = some o → h.get? b = some o) → h.get? S = some { cls := .type "list", data := .seq #[] c1 } → codeAny (model prog w) A (.builtin "list.extend.loop" ⟨[.ref S, .ref p.z, res], []⟩) R { s with heap := h, toks := tk } :=
    fun h c1 tk k hS1 => zt_loop (s := s) (h0 := s.heap) hh O same few res hR xs.size 0 h tk c1 #[] [] (Nat.sub_zero _) (Nat.zero_le _) (st.keep O k) (fun b o hb e => k b o (bS b hb) e) hS1 rfl rfl ⟨(fun _ m => nomatch m), (fun _ m => nomatch m), List.nodup_nil, fun j a e => by simp at e⟩
  unfold Builtin.List.listExtendWith
  refine wpAny_bind (wpAny_typeOf (T := "zip") ty ?_)
  have q1 : Builtin.List.listSameRef (.ref S) (.ref p.z) = false := by simp [Builtin.List.listSameRef, O.sz]
  have q2 : (Value.type "zip" == Value.type "list") = false := by decide
  have q3 : (Value.type "zip" == Value.type "tuple") = false := by decide
  simp only [q1, q2, q3, Bool.or_false, Bool.false_eq_true, if_false]
  refine wpAny_bind (wpAny_pyIter_zip hz (wpAny_bind (wpAny_holding (hint_zip ty ?_))))
  refine wpAny_ite_split (fun _ => ?_) (fun _ => wpAny_pure ⟨plainId_quiet PySem.F.plain_extend_loop _, key _ c0 _ (fun b o _ e => e) hS⟩)
  refine wpAny_bind (wpAny_rule (wpAny_bind ?_))
  show wpAny _ _ (updateSeq S (·.push .none) >>= fun _ => updateSeq S (·.pop)) _ _ _
  refine wpAny_bind (wpAny_updateSeq hS rfl ?_)
  have g2 := Heap.get?_update_self (Obj.mapSeq (·.push Value.none)) hS rfl
  refine wpAny_updateSeq (hz := by seq_fits) g2 rfl (wpAny_pure ⟨plainId_quiet PySem.F.plain_extend_loop _, key _ _ _ (fun b o hb e => ?_) (Heap.get?_update_self (Obj.mapSeq (·.pop)) g2 rfl)⟩)
  exact (Heap.get?_update_other _ _ (Ne.symm hb)).trans ((Heap.get?_update_other _ _ (Ne.symm hb)).trans e)
theorem zt_collect {R : List Value → Shared → Prop} (hh : A.handled = none) (D : ZipApart p.z p.TI p.TO p.i1 p.i2 p.l1 p.l2) (same : xs.size = ys.size) (few : xs.size ≤ sizeLine)
    (hz : IsZip s.heap p.z p.TI p.TO .none) (hTI : IsPair s.heap p.TI (.ref p.i1) (.ref p.i2)) (hTO : IsPair s.heap p.TO .none .none) (h1 : s.heap.IsTupleIter p.i1 p.l1 0) (h2 : s.heap.IsTupleIter p.i2 p.l2 0)
    (hl1 : s.heap.IsTuple p.l1 xs) (hl2 : s.heap.IsTuple p.l2 ys)
    (h : ∀ (h' : Heap) (tk : Nat) (as : List Addr), (∀ b o, b ∉ [p.z, p.TO, p.i1, p.i2] → s.heap.get? b = some o → h'.get? b = some o) → as.length = xs.size → (∀ a ∈ as, p.i1 < a) → as.Nodup → (∀ (j : Nat) (a : Addr), as[j]? = some a → ∃ x y, xs[j]? = some x ∧ ys[j]? = some y ∧ IsPair h' a x y) → R (as.map Value.ref) { s with heap := h', toks := tk }) :
    wpAny (model prog w) A (collect (.ref p.z)) R E s := by
  have nS : ∀ b, (∃ o, s.heap.get? b = some o) → s.heap.objs.size ≠ b := fun b ⟨o, e⟩ q => Nat.lt_irrefl _ (q ▸ Heap.lt_size e)
  have O : ZOff p s.heap.objs.size := ⟨D, nS _ ⟨_, hz⟩, nS _ ⟨_, hTI⟩, nS _ ⟨_, hTO⟩, nS _ (h1.imp fun _ x => x.1), nS _ (h2.imp fun _ x => x.1), nS _ (hl1.imp fun _ x => x.1), nS _ (hl2.imp fun _ x => x.1)⟩
  have up : ∀ b o, s.heap.get? b = some o → (s.heap.push { cls := .type "list", data := .seq ([] : List Value).toArray }).get? b = some o := fun b o e => Heap.get?_push_of_some _ e
  unfold collect
  refine wpAny_bind (wpAny_runValue (codeAny_builtin entry_proto_collect' ?_)); rw [Around.under_plainId PySem.F.plain_proto_collect _]
  show wpAny _ A.in1 (newList [] >>= fun l => again (.builtin "list.__iadd__" ⟨[l, .ref p.z], []⟩)) _ _ s
  refine wpAny_bind (wpAny_newObj_type (wpAny_pure ⟨plainId_quiet PySem.F.plain_list_iadd _, codeAny_builtin entry_list_iadd' ?_⟩)); rw [Around.under_plainId PySem.F.plain_list_iadd _]
  have hS1 : (s.heap.push { cls := .type "list", data := .seq ([] : List Value).toArray }).get? s.heap.objs.size = some { cls := .type "list", data := .seq #[] } := Heap.get?_push_size _ rfl
  show wpAny _ A.in1 (Builtin.List.listExtendWith (.ref s.heap.objs.size) (.ref p.z) (.ref s.heap.objs.size)) _ _ _
  have st : ZSt p s.heap.objs.size xs ys 0 (s.heap.push { cls := .type "list", data := .seq ([] : List Value).toArray }) := ⟨h1.at fun o e => up _ _ e, h2.at fun o e => up _ _ e, hl1.at fun o e => up _ _ e, hl2.at fun o e => up _ _ e, up _ _ hTI, ⟨_, up _ _ hTO⟩, .inl ⟨rfl, up _ _ hz, up _ _ hTO⟩⟩
  have key := zt_extend (prog := prog) (w := w) (A := A) (s := { s with heap := s.heap.push { cls := .type "list", data := .seq ([] : List Value).toArray } }) (res := .ref s.heap.objs.size) (c0 := 0)
    (R := fun (q : Result) (s' : Shared) => ∃ (h' : Heap) (tk : Nat) (acc : Array Value) (c : Nat) (as : List Addr), q = .ok (.ret (.ref s.heap.objs.size)) ∧ s' = { s with heap := h', toks := tk } ∧ (∀ b o, b ∉ [p.z, p.TO, p.i1, p.i2] → s.heap.get? b = some o → h'.get? b = some o) ∧
      h'.get? s.heap.objs.size = some { cls := .type "list", dict := none, data := .seq acc c, slots := #[] } ∧ as.length = xs.size ∧ ZG p s.heap.objs.size xs ys h' as ∧ acc.toList = as.map Value.ref)
    hh O same few st (up _ _ hz) hS1 fun h' tk acc c as k1 k2 k3 k4 k5 => ⟨h', tk, acc, c, as, rfl, rfl, fun b o m e => k1 b o (fun q => by
      rcases List.mem_cons.mp q with q | q
      · exact (nS b ⟨_, e⟩) q.symm
      · exact m q) (up _ _ e), k2, k3, k4, k5⟩
  refine wpAny_mono key (fun fin s' x => ?_) fun e s' x => ?_
  · cases fin with
    | done f =>
      obtain ⟨h', tk, acc, c, as, e, rfl, k1, k2, k3, k4, k5⟩ := x
      cases e
      show wpAny _ A (load s.heap.objs.size >>= _) _ _ _
      refine wpAny_bind (wpAny_load k2 (wpAny_pure ?_))
      have := h h' tk as k1 k3 k4.low k4.nd k4.pairs
      rw [← k5] at this
      exact this
    | again c1 =>
      refine ⟨x.1, codeAny_mono x.2 fun q s2 y => ?_⟩
      obtain ⟨h', tk, acc, c, as, rfl, rfl, k1, k2, k3, k4, k5⟩ := y
      show wpAny _ A (load s.heap.objs.size >>= _) _ _ _
      refine wpAny_bind (wpAny_load k2 (wpAny_pure ?_))
      have := h h' tk as k1 k3 k4.low k4.nd k4.pairs
      rw [← k5] at this
      exact this
  · obtain ⟨_, _, _, _, _, e', _⟩ := x
    cases e'
theorem zt_tuple {Q : Value → Shared → Prop} (hh : A.handled = none) (D : ZipApart p.z p.TI p.TO p.i1 p.i2 p.l1 p.l2) (same : xs.size = ys.size) (few : xs.size ≤ sizeLine)
    (hz : IsZip s.heap p.z p.TI p.TO .none) (hTI : IsPair s.heap p.TI (.ref p.i1) (.ref p.i2)) (hTO : IsPair s.heap p.TO .none .none) (h1 : s.heap.IsTupleIter p.i1 p.l1 0) (h2 : s.heap.IsTupleIter p.i2 p.l2 0)
    (hl1 : s.heap.IsTuple p.l1 xs) (hl2 : s.heap.IsTuple p.l2 ys)
    (k : ∀ (h' : Heap) (tk : Nat) (as : List Addr), (∀ b o, b ∉ [p.z, p.TO, p.i1, p.i2] → s.heap.get? b = some o → h'.get? b = some o) → as.length = xs.size → (∀ a ∈ as, p.i1 < a) → as.Nodup → (∀ (j : Nat) (a : Addr), as[j]? = some a → ∃ x y, xs[j]? = some x ∧ ys[j]? = some y ∧ IsPair h' a x y) →
      Q (.ref h'.objs.size) { s with heap := h'.push { cls := .type "tuple", data := .seq (as.map Value.ref).toArray }, toks := tk }) :
    wpAny (model prog w) A (call (.type "tuple") [.ref p.z]) Q E s := by
  obtain ⟨T, eT, ty⟩ : ∃ T : String, ZN T ∧ s.TypeIs (.ref p.z) T := ⟨"zip", rfl, ⟨_, hz, rfl⟩⟩
  refine callType_codes (Q₁ := fun o z => z.TypeIs o "tuple" ∧ Q o z) F.called_tuple (F.typeCall_tuple_1 _) F.entry_object_init (codeAny_of_tree ?_) fun o z hz => ?_
  · show wpAny _ A.in1.in1 (checkBuiltinCall "tuple.__new__" ⟨[.type "tuple", .ref p.z], []⟩ >>= fun _ => again (.builtin "tuple.__new__" ⟨[.type "tuple", .ref p.z], []⟩)) _ _ s
    refine wpAny_bind (wpAny_of_eq (F.newCall_tuple_1 _) (wpAny_pure ⟨plainId_quiet F.plain_tuple_new _, codeAny_builtin F.entry_tuple_new ?_⟩)); rw [Around.under_plainId F.plain_tuple_new _]
    have q1 := sub_tuple_self; have q2 := init_tuple_lookup; have q3 := madeHere_tuple
    wp_walk using wpAny_typeOf ty
    rw [if_neg (by rw [show T = "zip" from eT]; decide)]
    refine wpAny_bind (zt_collect (A := A.in1.in1) hh D same few hz hTI hTO h1 h2 hl1 hl2 fun h' tk as k1 k2 k3 k4 k5 => ?_)
    show wpAny _ _ (Builtin.Tuple.tupleExact (as.map Value.ref).toArray >>= fun v => ret v) _ _ _; unfold Builtin.Tuple.tupleExact
    refine wpAny_bind (wpAny_newObj_type ?_ (by show (as.map Value.ref).toArray.size ≤ sizeLine; simp; omega))
    exact wpAny_pure ⟨⟨_, Heap.get?_push_size _ rfl, rfl⟩, k h' tk as k1 k2 k3 k4 k5⟩
  · exact ⟨hz.1, F.args_object_init_2 o _, object_init_meets F.called_tuple.init.lookup F.called_tuple.made (by decide) prog w A.in1 _ z ⟨hz.1, rfl, hz.2⟩⟩
end
end Tq
namespace Tq
open PySem PySem.Spec PyProof.Rows L2
/-- pairs laid at the places -/
def lay (H : Hp) : List Addr → List (V × V) → Hp
  | a :: as, (x, y) :: r => lay (L2.upd H a (.tup [x, y])) as r
  | _, _ => H
theorem lay_ne {b : Addr} : ∀ {as : List Addr} {r : List (V × V)} {H : Hp}, b ∉ as → lay H as r b = H b
  | [], _, _, _ => rfl
  | _ :: _, [], _, _ => rfl
  | a :: as, (x, y) :: r, H, h => by
    show lay (L2.upd H a (.tup [x, y])) as r b = _
    rw [lay_ne (fun m => h (List.mem_cons_of_mem _ m)), upd_ne (fun e => h (by rw [e]; exact List.mem_cons_self))]
theorem lay_same {as : List Addr} {r : List (V × V)} {H : Hp} (n : ∀ a ∈ as, H a = none) : Same H (lay H as r) := fun b o e => by
  rw [lay_ne fun m => by rw [n b m] at e; cases e]
  exact e
theorem lay_at : ∀ {as : List Addr} {r : List (V × V)} {H : Hp} {j : Nat} {a : Addr} {x y : V}, as.Nodup → as[j]? = some a → r[j]? = some (x, y) → lay H as r a = some (.tup [x, y])
  | [], _, _, _, _, _, _, _, e, _ => by simp at e
  | _ :: _, [], _, _, _, _, _, _, _, e => by simp at e
  | b :: as, (u, v) :: r, H, 0, a, x, y, nd, e1, e2 => by
    simp at e1 e2
    obtain ⟨rfl, rfl⟩ := e2
    subst e1
    show lay (L2.upd H b (.tup [u, v])) as r b = _
    rw [lay_ne (List.nodup_cons.mp nd).1]
    exact upd_same
  | b :: as, (u, v) :: r, H, j + 1, a, x, y, nd, e1, e2 => lay_at (as := as) (r := r) (List.nodup_cons.mp nd).2 (by simpa using e1) (by simpa using e2)
section
variable {P : Program} {w : World} {H H2 : Hp} {h h' : Heap} {a : Addr} {o : HO}
/-- one more object that stands is tracked -/
theorem hok_more (x : HOk P w H h) (hn : H a = none) (new : ObjOk P w (L2.upd H a o) h a o) : HOk P w (L2.upd H a o) h := fun b u e => by
  by_cases hb : b = a
  · subst hb
    rw [upd_same] at e
    cases e; exact new
  · rw [upd_ne hb] at e
    have k : ∀ c z, H c = some z → (L2.upd H a o) c = some z := fun c z q => by rw [upd_ne (ne_of_none q hn)]; exact q
    exact (x b u e).stay (fun c v _ q => q) (fun c q => k c _ q) fun c xs q => k c _ q
theorem hok_lay : ∀ {as : List Addr} {r : List (V × V)} {H : Hp}, HOk P w H h → as.Nodup → (∀ a ∈ as, H a = none) → (∀ (j : Nat) (a : Addr) (x y : V), as[j]? = some a → r[j]? = some (x, y) → ∃ u v, RelV x u ∧ RelV y v ∧ IsPair h a u v) → HOk P w (lay H as r) h
  | [], _, _, x, _, _, _ => x
  | _ :: _, [], _, x, _, _, _ => x
  | a :: as, (p, q) :: r, H, x, nd, n, f => by
    obtain ⟨u, v, ru, rv, e⟩ := f 0 a p q rfl rfl
    have new : ObjOk P w (L2.upd H a (.tup [p, q])) h a (.tup [p, q]) := ⟨(by show 2 ≤ sizeLine; decide), [u, v], .cons ru (.cons rv .nil), _, e, rfl, _, rfl⟩
    refine hok_lay (as := as) (r := r) (hok_more x (n a List.mem_cons_self) new) (List.nodup_cons.mp nd).2 (fun b mb => ?_) fun j b x y e1 e2 => f (j + 1) b x y (by simpa using e1) (by simpa using e2)
    rw [upd_ne (fun e => (List.nodup_cons.mp nd).1 (by rw [← e]; exact mb))]
    exact n b (List.mem_cons_of_mem _ mb)
theorem un_more {fs ex : List Addr} (k : ∀ b u, h.get? b = some u → h'.get? b = some u) (old : ∀ b, b < h.objs.size → H2 b = H b) (same : Same H H2) : Un fs ex H H2 h h' where
  keep := fun b u q _ _ _ => k b u q
  slot := fun b u q _ _ _ => ⟨u.slots, k b u q⟩
  free := fun b u q n _ => by rw [old b (Heap.lt_size q)]; exact n
  there := fun b u q _ => ⟨u, k b u q⟩
  tups := fun b xs q => same _ _ q
  frzs := fun b u xs q => same _ _ q
  tbls := fun b ps q => ⟨#[], by rw [same _ _ q]; simp⟩
end
theorem vals_refs : ∀ as : List Addr, Vals (as.map V.ref) (as.map Value.ref)
  | [] => .nil
  | _ :: r => .cons rfl (vals_refs r)
theorem vals_get : ∀ {xs : List V} {us : List Value} {j : Nat} {x : V} {u : Value}, Vals xs us → xs[j]? = some x → us[j]? = some u → RelV x u
  | _, _, 0, _, _, .cons a _, e1, e2 => by
    simp at e1 e2
    subst e1 e2
    exact a
  | _, _, j + 1, _, _, .cons _ b, e1, e2 => vals_get (j := j) b (by simpa using e1) (by simpa using e2)
  | _, _, _, _, _, .nil, e1, _ => by simp at e1
/-- .., told as O tells it -/
def tTupZipO (O : Addr → List V → HO) (K : PySem.W.Frag) (ta : TA) : TE := fun σ H Q => ta σ H fun vs H1 => ∃ a b xs ys, vs = [.ref a, .ref b] ∧ SqT K H1 a xs ∧ SqT K H1 b ys ∧ xs.length = ys.length ∧
  ∀ (ps : List Addr) (q : Addr), ps.length = xs.length → ps.Nodup → (∀ c ∈ ps, H1 c = none) → H1 q = none → q ∉ ps → Q (.ref q) (upd (lay H1 ps (xs.zip ys)) q (O q (ps.map V.ref)))
theorem pe_tupZipO {O : Addr → List V → HO} (hO : ∀ (P : Program) (w : World) (H : Hp) (h : Heap) (a : Addr) (xs : List V), PlainT h a xs → ObjOk P w H h a (O a xs)) {X : Cx} {e e2 : Expr} {ta : TA} {p0 p1 pos pos0 : Pos} (hcalm : X.calm = true) (hgT : Gl X "tuple") (hmT : X.mg "tuple" = none) (hg : Gl X "zip") (hm : X.mg "zip" = none) (ha : PA X [e, e2] ta)
    (hs : starEach [e, e2] X.env = (false, eval e X.env) :: starEach [e2] X.env := by rfl) (hpl : (backTo pos (starEach [e2] X.env)).any (·.1) = false := by rfl)
    (he : starEach [.Call (.Name "zip" p1) [e, e2] [] pos] X.env = (false, eval (.Call (.Name "zip" p1) [e, e2] [] pos) X.env) :: starEach [] X.env := by rfl) (hpl0 : (backTo pos0 (starEach [] X.env)).any (·.1) = false := by rfl) :
    PE X (.Call (.Name "tuple" p0) [.Call (.Name "zip" p1) [e, e2] [] pos] [] pos0) (tTupZipO O X.K ta) := by
  refine ⟨fun pins s σ H Q I h => ?_⟩
  have hv : bootBuiltins "tuple" = some (.type "tuple") := by decide +kernel
  refine wpAny_Call_Name_kw (ld_blt I hgT hmT hv ?_ (by decide) (by decide))
  refine PyProof.Rows.callWith_type1 ?_ he hpl0
  rw [he]
  show wpAny _ _ (spliced ((false, eval (.Call (.Name "zip" p1) [e, e2] [] pos) X.env) :: backTo pos0 (starEach [] X.env))) _ _ s
  refine Calls.spliced_cons (Call_ (ld_blt I hg hm PyProof.Rows.boot_zip (PyProof.Rows.callWith_type1 (thn (ha.run pos pins s σ H _ I h) fun us s1 ⟨vs, H1, I1, r1, q1⟩ => ?_) hs hpl)))
  obtain ⟨a, b, xs, ys, ex, hx, hy, same, q⟩ := q1
  subst ex
  obtain ⟨u1, u2, eu, ru1, ru2⟩ := vals2 r1
  subst eu
  cases ru1
  cases ru2
  obtain ⟨its, rv, t1, z1⟩ := I1.tuple hx
  obtain ⟨its2, rv2, t2, z2⟩ := I1.tuple hy
  obtain ⟨o1, ho1, _⟩ := id t1
  obtain ⟨o2, ho2, _⟩ := id t2
  have l1 := rv.length
  have l2 := rv2.length
  have st1 : s1.heap.IsTuple a its.toArray := t1
  have st2 : s1.heap.IsTuple b its2.toArray := t2
  refine RZ.call_zipT st1 st2 fun h' hz hTI hTO h1 h2 hsz hk => Calls.spliced_nil ?_
  refine zt_tuple (p := ⟨s1.heap.objs.size + 4, s1.heap.objs.size + 2, s1.heap.objs.size + 3, s1.heap.objs.size, s1.heap.objs.size + 1, a, b⟩) (xs := its.toArray) (ys := its2.toArray) (s := { s1 with heap := h' }) (I.ok.hd hcalm)
    (PySem.W.ktu_apart s1.heap.objs.size a b (Heap.lt_size ho1) (Heap.lt_size ho2)) (by simp; omega) (by simp; omega) hz hTI hTO h1 h2 (st1.at fun o e => hk _ o e) (st2.at fun o e => hk _ o e) fun g tk as k1 k2 k3 k4 k5 => ?_
  have low : ∀ c ∈ as, s1.heap.objs.size < c := k3
  have old : ∀ c o, s1.heap.get? c = some o → g.get? c = some o := fun c o e => k1 c o (fun m => by
    have lt := Heap.lt_size e
    simp only [List.mem_cons, List.not_mem_nil, or_false] at m
    rcases m with m | m | m | m
    · rw [m] at lt; exact absurd lt (Nat.not_lt.mpr (Nat.le_add_right _ _))
    · rw [m] at lt; exact absurd lt (Nat.not_lt.mpr (Nat.le_add_right _ _))
    · rw [m] at lt; exact Nat.lt_irrefl _ lt
    · rw [m] at lt; exact absurd lt (Nat.not_lt.mpr (Nat.le_add_right _ _))) (hk c o e)
  have la : as.length = its.length := by rw [k2]; simp
  have fr : ∀ c ∈ as, H1 c = none := fun c m => I1.hok.fresh (Nat.le_of_lt (low c m))
  have I2 : Inv X pins σ (lay H1 as (xs.zip ys)) { s1 with heap := g, toks := tk } := by
    refine I1.un (un_more old (fun b hb => lay_ne fun m => Nat.lt_irrefl _ (Nat.lt_trans hb (low b m))) (lay_same fr)) (hok_lay (I1.hok.kept old) k4 fr fun j c x y e1 e2 => ?_)
    obtain ⟨u, v, e3, e4, e5⟩ := k5 j c e1
    obtain ⟨f1, f2⟩ := List.getElem?_zip_eq_some.mp e2
    exact ⟨u, v, vals_get rv f1 (by simpa using e3), vals_get rv2 f2 (by simpa using e4), e5⟩
  have hq : (lay H1 as (xs.zip ys)) g.objs.size = none := I2.hok.fresh (Nat.le_refl _)
  have I3 : Inv X pins σ (L2.upd (lay H1 as (xs.zip ys)) g.objs.size (O g.objs.size (as.map V.ref))) { s1 with heap := g.push { cls := .type "tuple", data := .seq (as.map Value.ref).toArray }, toks := tk } :=
    I2.laid (t' := tk) (fun b o e => Heap.get?_push_of_some _ e) (Nat.le_refl _) (hO _ _ _ _ _ _ ⟨by rw [List.length_map]; omega, as.map Value.ref, vals_refs as, 0, Heap.get?_push_size _ rfl⟩)
  have off : g.objs.size ∉ as := fun m => by
    obtain ⟨j, hj⟩ := List.mem_iff_getElem?.mp m
    obtain ⟨x, y, _, _, e5⟩ := k5 j _ hj
    exact Nat.lt_irrefl _ (Heap.lt_size e5)
  exact ⟨.ref g.objs.size, _, I3, rfl, q as g.objs.size (by rw [la, ← l1]) k4 fr ((lay_ne (r := xs.zip ys) (H := H1) off).symm.trans hq) off⟩
/-- tuple(zip(a, b)) of two tuples of one length -/
def tTupZip (K : PySem.W.Frag) (ta : TA) : TE := fun σ H Q => ta σ H fun vs H1 => ∃ a b xs ys, vs = [.ref a, .ref b] ∧ SqT K H1 a xs ∧ SqT K H1 b ys ∧ xs.length = ys.length ∧
  ∀ (ps : List Addr) (q : Addr), ps.length = xs.length → ps.Nodup → (∀ c ∈ ps, H1 c = none) → H1 q = none → q ∉ ps → Q (.ref q) (upd (lay H1 ps (xs.zip ys)) q (TPO q (ps.map V.ref)))
theorem pe_tupZip {X : Cx} {e e2 : Expr} {ta : TA} {p0 p1 pos pos0 : Pos} (hcalm : X.calm = true) (hgT : Gl X "tuple") (hmT : X.mg "tuple" = none) (hg : Gl X "zip") (hm : X.mg "zip" = none) (ha : PA X [e, e2] ta)
    (hs : starEach [e, e2] X.env = (false, eval e X.env) :: starEach [e2] X.env := by rfl) (hpl : (backTo pos (starEach [e2] X.env)).any (·.1) = false := by rfl)
    (he : starEach [.Call (.Name "zip" p1) [e, e2] [] pos] X.env = (false, eval (.Call (.Name "zip" p1) [e, e2] [] pos) X.env) :: starEach [] X.env := by rfl) (hpl0 : (backTo pos0 (starEach [] X.env)).any (·.1) = false := by rfl) :
    PE X (.Call (.Name "tuple" p0) [.Call (.Name "zip" p1) [e, e2] [] pos] [] pos0) (tTupZip X.K ta) :=
  pe_tupZipO (O := TPO) (fun _ _ _ _ _ _ T => tpo_new T) hcalm hgT hmT hg hm ha hs hpl he hpl0
end Tq
namespace Tq
open PySem PySem.Spec PyProof.Rows L2
/-! ### canonical forms [24] -/
theorem look_none {prs : List (Str × Str)} {z : Str} (h : ∀ q ∈ prs, z ≠ q.1) : look prs z = none := by
  unfold look
  suffices g : ∀ (prs : List (Str × Str)) (o : Option Str), (∀ q ∈ prs, z ≠ q.1) → prs.foldl (fun o p => if z = p.1 then some p.2 else o) o = o from g prs none h
  intro prs
  induction prs with
  | nil => intro o _; rfl
  | cons q r ih =>
    intro o h
    rw [List.foldl_cons, if_neg (h q List.mem_cons_self)]
    exact ih o fun x m => h x (List.mem_cons_of_mem _ m)
theorem look_snoc (prs : List (Str × Str)) (q : Str × Str) (z : Str) : look (prs ++ [q]) z = if z = q.1 then some q.2 else look prs z := by
  unfold look
  rw [List.foldl_append]; rfl
theorem look_of {z t : Str} : ∀ {prs : List (Str × Str)}, (prs.map (·.1)).Nodup → (z, t) ∈ prs → look prs z = some t := by
  intro prs
  suffices g : ∀ (prs : List (Str × Str)) (o : Option Str), (prs.map (·.1)).Nodup → (z, t) ∈ prs → prs.foldl (fun o p => if z = p.1 then some p.2 else o) o = some t from g prs none
  clear prs
  intro prs
  induction prs with
  | nil => intro o _ m; cases m
  | cons q r ih =>
    intro o nd m
    rw [List.foldl_cons]
    rw [List.map_cons, List.nodup_cons] at nd
    rcases List.mem_cons.mp m with e | m
    · subst e
      have n : ∀ x ∈ r, z ≠ x.1 := fun x hx e => nd.1 (e ▸ List.mem_map.mpr ⟨x, hx, rfl⟩)
      have k : ∀ (r : List (Str × Str)) (o : Option Str), (∀ q ∈ r, z ≠ q.1) → r.foldl (fun o p => if z = p.1 then some p.2 else o) o = o := by
        intro r
        induction r with
        | nil => intro o _; rfl
        | cons q r ih =>
          intro o h
          rw [List.foldl_cons, if_neg (h q List.mem_cons_self)]
          exact ih o fun x m => h x (List.mem_cons_of_mem _ m)
      rw [if_pos rfl]
      exact k r _ n
    · exact ih _ nd.2 m
def sb (f : Str → Option Str) (z : Str) : Str := (f z).getD z
theorem rowT_sub (f : Str → Option Str) (r : CRow) : rowT (rowSub f r) = (rowT r).map (sb f) := by
  cases r with
  | none => rfl
  | some cs =>
    show (cs.map (Cel.sub f)).filterMap Cel.txt? = (cs.filterMap Cel.txt?).map (sb f)
    induction cs with
    | nil => rfl
    | cons c r ih =>
      rw [List.map_cons]
      cases c with
      | null => exact ih
      | val n => exact ih
      | txt z =>
        show sb f z :: (r.map (Cel.sub f)).filterMap Cel.txt? = sb f z :: (r.filterMap Cel.txt?).map (sb f)
        rw [ih]
theorem recT_sub (f : Str → Option Str) (R : List CRow) : recT (recSub f R) = (recT R).map (sb f) := by
  unfold recT recSub
  induction R with
  | nil => rfl
  | cons r R ih => rw [List.map_cons, List.flatMap_cons, List.flatMap_cons, List.map_append, ih, rowT_sub]
theorem recSub_comp {f1 f2 f3 : Str → Option Str} {R : List CRow} (h : ∀ z ∈ recT R, sb f2 (sb f1 z) = sb f3 z) : recSub f2 (recSub f1 R) = recSub f3 R := by
  unfold recSub
  rw [List.map_map]
  refine List.map_congr_left fun r hr => ?_
  cases r with
  | none => rfl
  | some cs =>
    show some ((cs.map (Cel.sub f1)).map (Cel.sub f2)) = some (cs.map (Cel.sub f3))
    rw [List.map_map]
    congr 1
    refine List.map_congr_left fun c hc => ?_
    cases c with
    | txt z => exact congrArg Cel.txt (h z (List.mem_flatMap.mpr ⟨_, hr, List.mem_filterMap.mpr ⟨_, hc, rfl⟩⟩))
    | _ => rfl
theorem tfold_map {fx : List Str} {g : Str → Str} {A : List Str} (inj : ∀ a ∈ A, ∀ b ∈ A, g a = g b → a = b) : ∀ (zs acc : List Str), (∀ z ∈ zs, (z ∈ fx ∧ g z ∈ fx) ∨ (z ∉ fx ∧ g z ∉ fx ∧ z ∈ A)) → (∀ z ∈ acc, z ∈ A) →
    (zs.map g).foldl (tstep fx) (acc.map g) = (zs.foldl (tstep fx) acc).map g
  | [], _, _, _ => rfl
  | z :: zs, acc, h, ha => by
    rw [List.map_cons, List.foldl_cons, List.foldl_cons]
    have st : tstep fx (acc.map g) (g z) = (tstep fx acc z).map g ∧ ∀ y ∈ tstep fx acc z, y ∈ A := by
      rcases h z List.mem_cons_self with ⟨a, b⟩ | ⟨a, b, c⟩
      · unfold tstep
        rw [if_pos a, if_pos b]
        exact ⟨rfl, ha⟩
      · unfold tstep step1
        rw [if_neg a, if_neg b]
        by_cases m : z ∈ acc
        · rw [if_pos m, if_pos (List.mem_map.mpr ⟨z, m, rfl⟩)]
          exact ⟨rfl, ha⟩
        · rw [if_neg m, if_neg (fun q => by
            obtain ⟨y, hy, e⟩ := List.mem_map.mp q
            exact m (inj y (ha y hy) z c e ▸ hy)), List.map_append]
          refine ⟨rfl, fun y hy => ?_⟩
          rcases List.mem_append.mp hy with hy | hy
          · exact ha y hy
          · rw [List.mem_singleton.mp hy]; exact c
    rw [st.1]
    exact tfold_map inj zs _ (fun y m => h y (List.mem_cons_of_mem _ m)) st.2
/-- the canonical form -/
def canon (fx : List Str) (R : List CRow) : List CRow := recSub (look ((freeT fx R).zip (firstN "v" (freeT fx R).length fx))) R
section
variable {fx : List Str} {R : List CRow} {T : List Str}
theorem sb_old {F : List Str} {z : Str} (h : z ∉ F) : sb (look (F.zip T)) z = z := by
  unfold sb
  rw [look_none fun q hq (e : z = q.1) => h (by rw [e]; exact (List.of_mem_zip (a := q.1) (b := q.2) hq).1)]; rfl
theorem sb_new {F : List Str} (nd : F.Nodup) (l : F.length ≤ T.length) {i : Nat} {z t : Str} (h1 : F[i]? = some z) (h2 : T[i]? = some t) : sb (look (F.zip T)) z = t := by
  unfold sb
  have m : (z, t) ∈ F.zip T := List.mem_of_getElem? (List.getElem?_zip_eq_some.mpr ⟨h1, h2⟩)
  have e : (F.zip T).map (·.1) = F := List.map_fst_zip l
  rw [look_of (by rw [e]; exact nd) m]; rfl
theorem canon_sub (nd : T.Nodup) (l : T.length = (freeT fx R).length) (off : ∀ t ∈ T, t ∉ fx) : freeT fx (recSub (look ((freeT fx R).zip T)) R) = T ∧ canon fx (recSub (look ((freeT fx R).zip T)) R) = canon fx R := by
  have ndF := freeT_nd fx R
  have at_ : ∀ z ∈ freeT fx R, ∃ i t, (freeT fx R)[i]? = some z ∧ T[i]? = some t ∧ sb (look ((freeT fx R).zip T)) z = t := fun z hz => by
    obtain ⟨i, hi⟩ := List.mem_iff_getElem?.mp hz
    have il := (List.getElem?_eq_some_iff.mp hi).1
    exact ⟨i, T[i], hi, List.getElem?_eq_getElem (by omega), sb_new ndF (by omega) hi (List.getElem?_eq_getElem (by omega))⟩
  have fr : freeT fx (recSub (look ((freeT fx R).zip T)) R) = T := by
    rw [freeT_eq, recT_sub]
    have k := tfold_map (fx := fx) (g := sb (look ((freeT fx R).zip T))) (A := freeT fx R) (fun a ha b hb e => by
      obtain ⟨i, t, h1, h2, h3⟩ := at_ a ha
      obtain ⟨j, u, g1, g2, g3⟩ := at_ b hb
      rw [h3, g3] at e
      subst e
      have ij : i = j := (List.getElem?_inj (List.getElem?_eq_some_iff.mp h2).1 nd).mp (h2.trans g2.symm)
      subst ij
      exact Option.some.inj (h1.symm.trans g1)) (recT R) [] (fun z hz => by
      by_cases m : z ∈ fx
      · exact .inl ⟨m, by rw [sb_old (fun q => (freeT_mem.mp q).2 m)]; exact m⟩
      · have zf : z ∈ freeT fx R := freeT_mem.mpr ⟨hz, m⟩
        obtain ⟨i, t, h1, h2, h3⟩ := at_ z zf
        exact .inr ⟨m, by rw [h3]; exact off t (List.mem_of_getElem? h2), zf⟩) (fun z m => nomatch m)
    have k2 : ((recT R).map (sb (look ((freeT fx R).zip T)))).foldl (tstep fx) [] = (freeT fx R).map (sb (look ((freeT fx R).zip T))) := by
      rw [freeT_eq] at k ⊢
      exact k
    rw [k2]
    refine List.ext_getElem? fun i => ?_
    rw [List.getElem?_map]
    by_cases il : i < (freeT fx R).length
    · rw [List.getElem?_eq_getElem il]
      have e2 : T[i]? = some T[i] := List.getElem?_eq_getElem (by omega)
      rw [e2]
      exact congrArg some (sb_new ndF (by omega) (List.getElem?_eq_getElem il) e2)
    · rw [List.getElem?_eq_none (by omega), List.getElem?_eq_none (by omega)]; rfl
  refine ⟨fr, ?_⟩
  unfold canon
  rw [fr, l]
  refine recSub_comp fun z hz => ?_
  by_cases m : z ∈ freeT fx R
  · obtain ⟨i, t, h1, h2, h3⟩ := at_ z m
    have il := (List.getElem?_eq_some_iff.mp h1).1
    have sl := firstN_len "v" (freeT fx R).length fx
    have e2 : (firstN "v" (freeT fx R).length fx)[i]? = some ((firstN "v" (freeT fx R).length fx)[i]'(by omega)) := List.getElem?_eq_getElem (by omega)
    rw [h3, sb_new nd (by omega) h2 e2, sb_new ndF (by omega) h1 e2]
  · rw [sb_old m, sb_old m]
    refine sb_old fun q => ?_
    have zx : z ∈ fx := by
      by_cases c : z ∈ fx
      · exact c
      · exact absurd (freeT_mem.mpr ⟨hz, c⟩) m
    exact off z q zx
end
end Tq
namespace Tq
open PySem PySem.Spec PyProof.Rows L2
theorem paired_of {α β : Type} {F : α → β → Prop} : ∀ {l1 : List α} {l2 : List β}, l1.length = l2.length → (∀ (i : Nat) a b, l1[i]? = some a → l2[i]? = some b → F a b) → Paired F l1 l2
  | [], [], _, _ => .nil
  | [], _ :: _, e, _ => by cases e
  | _ :: _, [], e, _ => by cases e
  | a :: l1, b :: l2, e, h => .cons (h 0 a b rfl rfl) (paired_of (by simpa using e) fun i x y e1 e2 => h (i + 1) x y (by simpa using e1) (by simpa using e2))
theorem pairsT_lay {K : PySem.W.Frag} {H : Hp} {ps : List Addr} {F S : List Str} (nd : ps.Nodup) (l : ps.length = F.length) (l2 : F.length = S.length) : PairsT K (lay H ps ((F.map V.str).zip (S.map V.str))) ps (F.zip S) := by
  unfold PairsT
  refine paired_of (by rw [List.length_map, List.length_zip]; omega) fun i a b e1 e2 => ?_
  rw [List.getElem?_map] at e2
  obtain ⟨q, hq, rfl⟩ := Option.map_eq_some_iff.mp e2
  obtain ⟨f1, f2⟩ := List.getElem?_zip_eq_some.mp (show (F.zip S)[i]? = some (q.1, q.2) from hq)
  refine sqT (lay_at nd e1 (x := .str q.1) (y := .str q.2) (List.getElem?_zip_eq_some.mpr ⟨?_, ?_⟩))
  · rw [List.getElem?_map, f1]; rfl
  · rw [List.getElem?_map, f2]; rfl
theorem l_tz0 {K : PySem.W.Frag} {σ : L2.St} {H : Hp} {Q : VK} {ta : TA} (q : ta σ H fun vs H1 => ∃ a b xs ys, vs = [.ref a, .ref b] ∧ SqT K H1 a xs ∧ SqT K H1 b ys ∧ xs.length = ys.length ∧
  ∀ (ps : List Addr) (q : Addr), ps.length = xs.length → ps.Nodup → (∀ c ∈ ps, H1 c = none) → H1 q = none → q ∉ ps → Q (.ref q) (upd (lay H1 ps (xs.zip ys)) q (TPO q (ps.map V.ref)))) : tTupZip K ta σ H Q := q
theorem k_tupZip {X : Cx} {K : PySem.W.Frag} (h : X.K = K) {e e2 : Expr} {ta : TA} {p0 p1 pos pos0 : Pos} (hcalm : X.calm = true) (hgT : Gl X "tuple") (hmT : X.mg "tuple" = none) (hg : Gl X "zip") (hm : X.mg "zip" = none) (ha : PA X [e, e2] ta)
    (hs : starEach [e, e2] X.env = (false, eval e X.env) :: starEach [e2] X.env := by rfl) (hpl : (backTo pos (starEach [e2] X.env)).any (·.1) = false := by rfl)
    (he : starEach [.Call (.Name "zip" p1) [e, e2] [] pos] X.env = (false, eval (.Call (.Name "zip" p1) [e, e2] [] pos) X.env) :: starEach [] X.env := by rfl) (hpl0 : (backTo pos0 (starEach [] X.env)).any (·.1) = false := by rfl) :
    PE X (.Call (.Name "tuple" p0) [.Call (.Name "zip" p1) [e, e2] [] pos] [] pos0) (tTupZip K ta) := h ▸ pe_tupZip hcalm hgT hmT hg hm ha hs hpl he hpl0
theorem canon_ok {fx : List Str} {R : List CRow} (h : RecOk R) : RecOk (canon fx R) := recSub_ok h fun z y e => look_ok (p := fun y => PyData.strOk y = true) (fun q hq => by
  obtain ⟨k, e, _⟩ := firstN_ok q.2 (List.of_mem_zip (a := q.1) (b := q.2) hq).2
  rw [e]
  exact strOk_nm (by decide +kernel) k) e
end Tq
namespace Tq
open PySem PySem.Spec PyProof.Rows L2
theorem firstN_nd (z : Str) (m : Nat) (xs : List Str) : (firstN z m xs).Nodup := by
  unfold firstN named
  refine List.Nodup.sublist (List.take_sublist _ _) (List.Pairwise.filter _ ?_)
  exact List.Pairwise.map _ (fun a b (h : a ≠ b) e => h (nm_inj e)) (List.nodup_range' (s := 1))
theorem firstN_off {z : Str} {m : Nat} {xs : List Str} : ∀ t ∈ firstN z m xs, t ∉ xs := fun t ht => by
  have h := (List.mem_filter.mp (List.mem_of_mem_take ht)).2
  simpa using h
theorem canon_twice (fx : List Str) (R : List CRow) : canon fx (canon fx R) = canon fx R :=
  (canon_sub (fx := fx) (R := R) (firstN_nd "v" (freeT fx R).length fx) (firstN_len "v" (freeT fx R).length fx) firstN_off).2
theorem GoodR.mono {zs us : List Str} {R : List CRow} (h : GoodR zs R) (s : ∀ z ∈ zs, z ∈ us) : GoodR us R := fun r hr c hc => by
  have g := h r hr c hc
  cases c with
  | null => trivial
  | txt z => exact s z g
  | val n => exact g
theorem celN_canon (fx : List Str) (R : List CRow) : celN (canon fx R) = celN R := celN_sub _ R
theorem canon_len (fx : List Str) (R : List CRow) : (canon fx R).length = R.length := rsub_len _ R
end Tq
namespace Tq
open PySem PySem.Spec PyProof.Rows L2
/-! ### == of any two records -/
instance celDec : DecidableEq Cel := fun a b => by
  cases a with
  | null => cases b with
    | null => exact isTrue rfl
    | txt y => exact isFalse (fun e => nomatch e)
    | val y => exact isFalse (fun e => nomatch e)
  | txt x => cases b with
    | null => exact isFalse (fun e => nomatch e)
    | txt y => exact (if h : x = y then isTrue (congrArg Cel.txt h) else isFalse fun e => h (Cel.txt.inj e))
    | val y => exact isFalse (fun e => nomatch e)
  | val x => cases b with
    | null => exact isFalse (fun e => nomatch e)
    | txt y => exact isFalse (fun e => nomatch e)
    | val y => exact (if h : x = y then isTrue (congrArg Cel.val h) else isFalse fun e => h (Cel.val.inj e))
theorem eqvAll_map {α : Type} [DecidableEq α] {f : α → PyData} (h : ∀ a b, PyData.eqv (f a) (f b) = decide (a = b)) : ∀ l r : List α, PyData.eqvAll (l.map f) (r.map f) = decide (l = r)
  | [], [] => by simp [PyData.eqvAll]
  | [], b :: r => by simp [PyData.eqvAll]
  | a :: l, [] => by simp [PyData.eqvAll]
  | a :: l, b :: r => by
    rw [List.map_cons, List.map_cons, PyData.eqvAll, h a b, eqvAll_map h l r]
    by_cases e : a = b <;> simp [e]
theorem eqv_cel : ∀ a b : Cel, PyData.eqv a.d b.d = decide (a = b)
  | .null, .null => by simp [Cel.d, PyData.eqv]
  | .null, .txt z => by simp [Cel.d, PyData.eqv]
  | .null, .val n => by simp [Cel.d, PyData.eqv]
  | .txt z, .null => by simp [Cel.d, PyData.eqv]
  | .txt z, .txt y => by
    have e : (z == y) = decide (z = y) := rfl
    simp [Cel.d, PyData.eqv, e]
  | .txt z, .val n => by simp [Cel.d, PyData.eqv]
  | .val n, .null => by simp [Cel.d, PyData.eqv]
  | .val n, .txt z => by simp [Cel.d, PyData.eqv]
  | .val n, .val m => by
    have e : (n == m) = decide (n = m) := rfl
    simp [Cel.d, PyData.eqv, PyData.eqvAll, e]
theorem eqv_row : ∀ a b : CRow, PyData.eqv (rowD a) (rowD b) = decide (a = b)
  | none, none => by simp [rowD, PyData.eqv]
  | none, some cs => by simp [rowD, PyData.eqv]
  | some cs, none => by simp [rowD, PyData.eqv]
  | some cs, some ds => by
    show PyData.eqvAll (cs.map Cel.d) (ds.map Cel.d) = _
    rw [eqvAll_map eqv_cel]
    simp
theorem eqv_rec (R S : List CRow) : PyData.eqv (recD R) (recD S) = decide (R = S) := eqvAll_map eqv_row R S
section
variable {K : PySem.W.Frag} {H : Hp} {Q : VK} {x y : V} {R S : List CRow}
theorem l_neR (o1 : RecOk R) (o2 : RecOk S) (h1 : Dp K H x (recD R)) (h2 : Dp K H y (recD S)) (q : Q (.bl (!decide (R = S))) H) : rNeD K x y H Q := ⟨_, _, h1, h2, rec_shaped o1, rec_shaped o2, by rw [eqv_rec]; exact q⟩
theorem l_eqR (o1 : RecOk R) (o2 : RecOk S) (h1 : Dp K H x (recD R)) (h2 : Dp K H y (recD S)) (q : Q (.bl (decide (R = S))) H) : rEqD K x y H Q := ⟨_, _, h1, h2, rec_shaped o1, rec_shaped o2, by rw [eqv_rec]; exact q⟩
end
/-! ### pairs of corresponding texts [22] -/
/-- what the walk over two cells makes of the pairs so far; none: no such renaming -/
def mcell (fx : List Str) (acc : List (Str × Str)) : Cel → Cel → Option (List (Str × Str))
  | .txt z, .txt y => if z ∈ fx ∨ y ∈ fx then (if z = y then some acc else none)
      else if (∀ q ∈ acc, (q.1 = z ↔ q.2 = y)) then some (if (z, y) ∈ acc then acc else acc ++ [(z, y)]) else none
  | a, b => if a = b then some acc else none
end Tq
namespace Tq
open PySem PySem.Spec PyProof.Rows L2
theorem k_tupZipT {X : Cx} {K : PySem.W.Frag} (h : X.K = K) {e e2 : Expr} {ta : TA} {p0 p1 pos pos0 : Pos} (hcalm : X.calm = true) (hgT : Gl X "tuple") (hmT : X.mg "tuple" = none) (hg : Gl X "zip") (hm : X.mg "zip" = none) (ha : PA X [e, e2] ta)
    (hs : starEach [e, e2] X.env = (false, eval e X.env) :: starEach [e2] X.env := by rfl) (hpl : (backTo pos (starEach [e2] X.env)).any (·.1) = false := by rfl)
    (he : starEach [.Call (.Name "zip" p1) [e, e2] [] pos] X.env = (false, eval (.Call (.Name "zip" p1) [e, e2] [] pos) X.env) :: starEach [] X.env := by rfl) (hpl0 : (backTo pos0 (starEach [] X.env)).any (·.1) = false := by rfl) :
    PE X (.Call (.Name "tuple" p0) [.Call (.Name "zip" p1) [e, e2] [] pos] [] pos0) (tTupZipO (fun _ xs => .tup xs) K ta) :=
  h ▸ pe_tupZipO (O := fun _ xs => .tup xs) (fun _ _ _ _ _ _ ⟨z, its, r, n, e⟩ => ⟨z, its, r, _, e, rfl, _, rfl⟩) hcalm hgT hmT hg hm ha hs hpl he hpl0
theorem l_tzT {O : Addr → List V → HO} {K : PySem.W.Frag} {σ : L2.St} {H : Hp} {Q : VK} {ta : TA} (q : ta σ H fun vs H1 => ∃ a b xs ys, vs = [.ref a, .ref b] ∧ SqT K H1 a xs ∧ SqT K H1 b ys ∧ xs.length = ys.length ∧
  ∀ (ps : List Addr) (q : Addr), ps.length = xs.length → ps.Nodup → (∀ c ∈ ps, H1 c = none) → H1 q = none → q ∉ ps → Q (.ref q) (upd (lay H1 ps (xs.zip ys)) q (O q (ps.map V.ref)))) : tTupZipO O K ta σ H Q := q
theorem canon_free (fx : List Str) (R : List CRow) : freeT fx (canon fx R) = firstN "v" (freeT fx R).length fx :=
  (canon_sub (fx := fx) (R := R) (firstN_nd "v" (freeT fx R).length fx) (firstN_len "v" (freeT fx R).length fx) firstN_off).1
theorem canon_lens {fx : List Str} {R S : List CRow} (h : canon fx R = canon fx S) : (freeT fx R).length = (freeT fx S).length := by
  have a := congrArg List.length (canon_free fx R)
  have b := congrArg List.length (canon_free fx S)
  rw [firstN_len] at a b
  rw [h] at a
  omega
end Tq
namespace Tq
open PySem PySem.Spec PyProof.Rows L2
/-- pairs that are one to one, without constants -/
structure MInv (fx : List Str) (acc : List (Str × Str)) : Prop where
  nd1 : (acc.map (·.1)).Nodup
  nd2 : (acc.map (·.2)).Nodup
  off1 : ∀ q ∈ acc, q.1 ∉ fx
  off2 : ∀ q ∈ acc, q.2 ∉ fx
theorem MInv.nil (fx : List Str) : MInv fx [] := ⟨List.nodup_nil, List.nodup_nil, fun _ m => (nomatch m), fun _ m => (nomatch m)⟩
theorem MInv.look {fx : List Str} {acc : List (Str × Str)} (h : MInv fx acc) {q : Str × Str} (m : q ∈ acc) : look acc q.1 = some q.2 := look_of h.nd1 m
theorem look_fx {fx : List Str} {acc : List (Str × Str)} (h : MInv fx acc) {z : Str} (m : z ∈ fx) : Tq.look acc z = none := look_none fun q hq e => h.off1 q hq (by rw [← e]; exact m)
/-- a step with two free texts -/
theorem mstep {fx : List Str} {acc : List (Str × Str)} {z y : Str} (h : MInv fx acc) (hz : z ∉ fx) (hy : y ∉ fx) (c : ∀ q ∈ acc, (q.1 = z ↔ q.2 = y)) :
    MInv fx (if (z, y) ∈ acc then acc else acc ++ [(z, y)]) ∧ (if (z, y) ∈ acc then acc else acc ++ [(z, y)]).map (·.1) = tstep fx (acc.map (·.1)) z ∧ (if (z, y) ∈ acc then acc else acc ++ [(z, y)]).map (·.2) = tstep fx (acc.map (·.2)) y := by
  unfold tstep step1
  rw [if_neg hz, if_neg hy]
  by_cases m : (z, y) ∈ acc
  · rw [if_pos m, if_pos (List.mem_map.mpr ⟨_, m, rfl⟩), if_pos (List.mem_map.mpr ⟨_, m, rfl⟩)]
    exact ⟨h, rfl, rfl⟩
  · have n1 : z ∉ acc.map (·.1) := fun q => by
      obtain ⟨p, hp, e⟩ := List.mem_map.mp q
      have e2 := (c p hp).mp e
      exact m (by rw [← e, ← e2]; exact hp)
    have n2 : y ∉ acc.map (·.2) := fun q => by
      obtain ⟨p, hp, e⟩ := List.mem_map.mp q
      have e2 := (c p hp).mpr e
      exact m (by rw [← e, ← e2]; exact hp)
    rw [if_neg m, if_neg n1, if_neg n2]
    refine ⟨⟨?_, ?_, ?_, ?_⟩, List.map_append .., List.map_append ..⟩
    · rw [List.map_append, List.nodup_append]
      exact ⟨h.nd1, by simp, fun a ha b hb (e : a = b) => n1 (by rw [List.mem_singleton.mp hb] at e; rw [e] at ha; exact ha)⟩
    · rw [List.map_append, List.nodup_append]
      exact ⟨h.nd2, by simp, fun a ha b hb (e : a = b) => n2 (by rw [List.mem_singleton.mp hb] at e; rw [e] at ha; exact ha)⟩
    · intro q hq
      rcases List.mem_append.mp hq with hq | hq
      · exact h.off1 q hq
      · rw [List.mem_singleton.mp hq]; exact hz
    · intro q hq
      rcases List.mem_append.mp hq with hq | hq
      · exact h.off2 q hq
      · rw [List.mem_singleton.mp hq]; exact hy
theorem mcell_ok {fx : List Str} {acc acc' : List (Str × Str)} {a b : Cel} (h : MInv fx acc) (e : mcell fx acc a b = some acc') :
    MInv fx acc' ∧ (∃ r, acc' = acc ++ r) ∧ acc'.map (·.1) = a.ts.foldl (tstep fx) (acc.map (·.1)) ∧ acc'.map (·.2) = b.ts.foldl (tstep fx) (acc.map (·.2)) ∧ b = a.sub (look acc') ∧ ∀ z ∈ a.ts, z ∉ fx → z ∈ acc'.map (·.1) := by
  have same : ∀ x y : Cel, (if x = y then some acc else none) = some acc' → x = y ∧ acc = acc' := fun x y e => by
    split at e
    · rename_i h
      exact ⟨h, Option.some.inj e⟩
    · cases e
  have plain : ∀ x : Cel, x.ts = [] → x.sub (look acc) = x → MInv fx acc ∧ (∃ r, acc = acc ++ r) ∧ acc.map (·.1) = x.ts.foldl (tstep fx) (acc.map (·.1)) ∧ acc.map (·.2) = x.ts.foldl (tstep fx) (acc.map (·.2)) ∧ x = x.sub (look acc) ∧ ∀ z ∈ x.ts, z ∉ fx → z ∈ acc.map (·.1) := fun x hx hs => by
    rw [hx]
    exact ⟨h, ⟨[], (List.append_nil _).symm⟩, rfl, rfl, hs.symm, fun z m => (nomatch m)⟩
  cases a with
  | null =>
    obtain ⟨e1, e2⟩ := same _ _ e
    rw [← e1, ← e2]
    exact plain .null rfl rfl
  | val n =>
    obtain ⟨e1, e2⟩ := same _ _ e
    rw [← e1, ← e2]
    exact plain (.val n) rfl rfl
  | txt z =>
    cases b with
    | null => exact absurd (same (.txt z) .null e).1 (by simp)
    | val n => exact absurd (same (.txt z) (.val n) e).1 (by simp)
    | txt y =>
      have e0 : (if z ∈ fx ∨ y ∈ fx then (if z = y then some acc else none) else if (∀ q ∈ acc, (q.1 = z ↔ q.2 = y)) then some (if (z, y) ∈ acc then acc else acc ++ [(z, y)]) else none) = some acc' := e
      by_cases c : z ∈ fx ∨ y ∈ fx
      · rw [if_pos c] at e0
        by_cases zy : z = y
        · rw [if_pos zy] at e0
          have ea := Option.some.inj e0
          subst zy ea
          have zf : z ∈ fx := c.elim id id
          have t : ∀ l, tstep fx l z = l := fun l => by unfold tstep; rw [if_pos zf]
          refine ⟨h, ⟨[], (List.append_nil _).symm⟩, (t _).symm, (t _).symm, ?_, fun u m n => ?_⟩
          · show Cel.txt z = Cel.txt ((look acc z).getD z)
            rw [look_fx h zf]; rfl
          · rw [List.mem_singleton.mp m] at n
            exact absurd zf n
        · rw [if_neg zy] at e0; cases e0
      · rw [if_neg c] at e0
        by_cases d : ∀ q ∈ acc, (q.1 = z ↔ q.2 = y)
        · rw [if_pos d] at e0
          have ea := Option.some.inj e0
          obtain ⟨i1, i2, i3⟩ := mstep h (fun m => c (.inl m)) (fun m => c (.inr m)) d
          rw [ea] at i1 i2 i3
          have mem : (z, y) ∈ acc' := by
            rw [← ea]
            split
            · assumption
            · exact List.mem_append_right _ (List.mem_singleton.mpr rfl)
          refine ⟨i1, ?_, i2, i3, ?_, fun u m _ => ?_⟩
          · rw [← ea]
            split
            · exact ⟨[], (List.append_nil _).symm⟩
            · exact ⟨_, rfl⟩
          · show Cel.txt y = Cel.txt ((look acc' z).getD z)
            rw [i1.look mem]; rfl
          · rw [List.mem_singleton.mp m]
            exact List.mem_map.mpr ⟨_, mem, rfl⟩
        · rw [if_neg d] at e0; cases e0
end Tq
namespace Tq
open PySem PySem.Spec PyProof.Rows L2
def mcells (fx : List Str) : List (Str × Str) → List Cel → List Cel → Option (List (Str × Str))
  | acc, [], [] => some acc
  | acc, a :: as, b :: bs => (mcell fx acc a b).bind fun acc' => mcells fx acc' as bs
  | _, _, _ => none
def mrow (fx : List Str) (acc : List (Str × Str)) : CRow → CRow → Option (List (Str × Str))
  | none, none => some acc
  | some cs, some ds => mcells fx acc cs ds
  | _, _ => none
def mrec (fx : List Str) : List (Str × Str) → List CRow → List CRow → Option (List (Str × Str))
  | acc, [], [] => some acc
  | acc, a :: as, b :: bs => (mrow fx acc a b).bind fun acc' => mrec fx acc' as bs
  | _, _, _ => none
/-- more pairs don't change what stands already -/
theorem sub_more {fx : List Str} {acc more : List (Str × Str)} {c : Cel} (h : MInv fx acc) (h2 : MInv fx more) (x : ∃ r, more = acc ++ r) (k : ∀ z ∈ c.ts, z ∉ fx → z ∈ acc.map (·.1)) : c.sub (look more) = c.sub (look acc) := by
  cases c with
  | null => rfl
  | val n => rfl
  | txt z =>
    show Cel.txt ((look more z).getD z) = Cel.txt ((look acc z).getD z)
    by_cases m : z ∈ fx
    · rw [look_fx h m, look_fx h2 m]
    · obtain ⟨q, hq, e⟩ := List.mem_map.mp (k z (List.mem_singleton.mpr rfl) m)
      obtain ⟨r, rfl⟩ := x
      have a1 := h.look hq
      have a2 := h2.look (List.mem_append_left r hq)
      have e' : q.1 = z := e
      rw [e'] at a1 a2
      rw [a1, a2]
theorem mcells_ok {fx : List Str} : ∀ {cs ds : List Cel} {acc acc' : List (Str × Str)}, MInv fx acc → mcells fx acc cs ds = some acc' →
    MInv fx acc' ∧ (∃ r, acc' = acc ++ r) ∧ acc'.map (·.1) = (cs.filterMap Cel.txt?).foldl (tstep fx) (acc.map (·.1)) ∧ acc'.map (·.2) = (ds.filterMap Cel.txt?).foldl (tstep fx) (acc.map (·.2)) ∧ (∀ more, MInv fx more → (∃ r, more = acc' ++ r) → ds = cs.map (Cel.sub (look more)))
  | [], [], acc, acc', h, e => by
    have e' := Option.some.inj (show some acc = some acc' from e)
    subst e'
    exact ⟨h, ⟨[], (List.append_nil _).symm⟩, rfl, rfl, fun _ _ _ => rfl⟩
  | [], _ :: _, _, _, _, e => by cases e
  | _ :: _, [], _, _, _, e => by cases e
  | a :: as, b :: bs, acc, acc', h, e => by
    obtain ⟨m, e1, e2⟩ := Option.bind_eq_some_iff.mp (show (mcell fx acc a b).bind (fun acc' => mcells fx acc' as bs) = some acc' from e)
    obtain ⟨i1, ⟨r, er⟩, i3, i4, i5, i6⟩ := mcell_ok h e1
    obtain ⟨j1, ⟨r2, er2⟩, j3, j4, j5⟩ := mcells_ok i1 e2
    have tx : ∀ (c : Cel) (cs : List Cel), (c :: cs).filterMap Cel.txt? = c.ts ++ cs.filterMap Cel.txt? := fun c cs => by cases c <;> rfl
    refine ⟨j1, ⟨r ++ r2, by rw [er2, er, List.append_assoc]⟩, ?_, ?_, fun more hm ⟨r3, er3⟩ => ?_⟩
    · rw [tx, List.foldl_append, ← i3]; exact j3
    · rw [tx, List.foldl_append, ← i4]; exact j4
    · rw [List.map_cons, ← j5 more hm ⟨r3, er3⟩, sub_more i1 hm ⟨r2 ++ r3, by rw [er3, er2, List.append_assoc]⟩ i6, ← i5]
theorem mrec_ok {fx : List Str} : ∀ {R S : List CRow} {acc acc' : List (Str × Str)}, MInv fx acc → mrec fx acc R S = some acc' →
    MInv fx acc' ∧ (∃ r, acc' = acc ++ r) ∧ acc'.map (·.1) = (recT R).foldl (tstep fx) (acc.map (·.1)) ∧ acc'.map (·.2) = (recT S).foldl (tstep fx) (acc.map (·.2)) ∧ (∀ more, MInv fx more → (∃ r, more = acc' ++ r) → S = recSub (look more) R)
  | [], [], acc, acc', h, e => by
    have e' := Option.some.inj (show some acc = some acc' from e)
    subst e'
    exact ⟨h, ⟨[], (List.append_nil _).symm⟩, rfl, rfl, fun _ _ _ => rfl⟩
  | [], _ :: _, _, _, _, e => by cases e
  | _ :: _, [], _, _, _, e => by cases e
  | a :: as, b :: bs, acc, acc', h, e => by
    obtain ⟨m, e1, e2⟩ := Option.bind_eq_some_iff.mp (show (mrow fx acc a b).bind (fun acc' => mrec fx acc' as bs) = some acc' from e)
    have row : MInv fx m ∧ (∃ r, m = acc ++ r) ∧ m.map (·.1) = (rowT a).foldl (tstep fx) (acc.map (·.1)) ∧ m.map (·.2) = (rowT b).foldl (tstep fx) (acc.map (·.2)) ∧ (∀ more, MInv fx more → (∃ r, more = m ++ r) → b = rowSub (look more) a) := by
      cases a with
      | none =>
        cases b with
        | none =>
          have e' := Option.some.inj (show some acc = some m from e1)
          subst e'
          exact ⟨h, ⟨[], (List.append_nil _).symm⟩, rfl, rfl, fun _ _ _ => rfl⟩
        | some ds => cases e1
      | some cs =>
        cases b with
        | none => cases e1
        | some ds =>
          obtain ⟨j1, j2, j3, j4, j5⟩ := mcells_ok h (show mcells fx acc cs ds = some m from e1)
          exact ⟨j1, j2, j3, j4, fun more hm x => congrArg some (j5 more hm x)⟩
    obtain ⟨i1, ⟨r, er⟩, i3, i4, i5⟩ := row
    obtain ⟨j1, ⟨r2, er2⟩, j3, j4, j5⟩ := mrec_ok i1 e2
    have tx : ∀ (a : CRow) (as : List CRow), recT (a :: as) = rowT a ++ recT as := fun a as => rfl
    refine ⟨j1, ⟨r ++ r2, by rw [er2, er, List.append_assoc]⟩, ?_, ?_, fun more hm ⟨r3, er3⟩ => ?_⟩
    · rw [tx, List.foldl_append, ← i3]; exact j3
    · rw [tx, List.foldl_append, ← i4]; exact j4
    · show b :: bs = rowSub (look more) a :: recSub (look more) as
      rw [← j5 more hm ⟨r3, er3⟩, ← i5 more hm ⟨r2 ++ r3, by rw [er3, er2, List.append_assoc]⟩]
/-- what the walk finds is the renaming, and the records are similar -/
theorem mrec_sound {fx : List Str} {R S : List CRow} {acc : List (Str × Str)} (e : mrec fx [] R S = some acc) : acc = (freeT fx R).zip (freeT fx S) ∧ canon fx R = canon fx S ∧ S = recSub (look acc) R := by
  obtain ⟨i1, _, i3, i4, i5⟩ := mrec_ok (MInv.nil fx) e
  have f1 : acc.map (·.1) = freeT fx R := by rw [freeT_eq]; exact i3
  have f2 : acc.map (·.2) = freeT fx S := by rw [freeT_eq]; exact i4
  have ea : acc = (freeT fx R).zip (freeT fx S) := by rw [← f1, ← f2]; exact (zip_back acc).symm
  have es := i5 acc i1 ⟨[], (List.append_nil _).symm⟩
  refine ⟨ea, ?_, es⟩
  have l : (freeT fx S).length = (freeT fx R).length := by rw [← f1, ← f2, List.length_map, List.length_map]
  have c := (canon_sub (fx := fx) (R := R) (T := freeT fx S) (freeT_nd fx S) l (fun t m => (freeT_mem.mp m).2)).2
  rw [← ea, ← es] at c
  exact c.symm
end Tq
namespace Tq
open PySem PySem.Spec PyProof.Rows L2
theorem mcell_full {fx : List Str} {P acc : List (Str × Str)} {a : Cel} (hP : MInv fx P) (k : ∀ z ∈ a.ts, z ∉ fx → z ∈ P.map (·.1)) (sub : ∀ q ∈ acc, q ∈ P) : ∃ acc', mcell fx acc a (a.sub (look P)) = some acc' ∧ ∀ q ∈ acc', q ∈ P := by
  cases a with
  | null => exact ⟨acc, (if_pos rfl : (if Cel.null = Cel.null then some acc else none) = some acc), sub⟩
  | val n => exact ⟨acc, (if_pos rfl : (if Cel.val n = Cel.val n then some acc else none) = some acc), sub⟩
  | txt z =>
    show ∃ acc', (if z ∈ fx ∨ (look P z).getD z ∈ fx then (if z = (look P z).getD z then some acc else none) else if (∀ q ∈ acc, (q.1 = z ↔ q.2 = (look P z).getD z)) then some (if (z, (look P z).getD z) ∈ acc then acc else acc ++ [(z, (look P z).getD z)]) else none) = some acc' ∧ _
    by_cases m : z ∈ fx
    · rw [look_fx hP m]
      exact ⟨acc, by rw [if_pos (.inl m)]; exact if_pos rfl, sub⟩
    · obtain ⟨q, hq, e⟩ := List.mem_map.mp (k z (List.mem_singleton.mpr rfl) m)
      obtain ⟨u, y⟩ := q
      have e' : u = z := e
      subst e'
      have a1 : look P u = some y := hP.look hq
      rw [a1]
      have hy := hP.off2 _ hq
      have one : ∀ q ∈ acc, (q.1 = u ↔ q.2 = y) := fun q hqa => by
        have hqP := sub q hqa
        constructor
        · intro e
          have b1 := hP.look hqP
          rw [e, a1] at b1
          exact (Option.some.inj b1).symm
        · intro e
          obtain ⟨i, hi⟩ := List.mem_iff_getElem?.mp hqP
          obtain ⟨j, hj⟩ := List.mem_iff_getElem?.mp hq
          have i2 : (P.map (·.2))[i]? = some y := by rw [List.getElem?_map, hi]; exact congrArg some e
          have j2 : (P.map (·.2))[j]? = some y := by rw [List.getElem?_map, hj]; rfl
          have ij : i = j := (List.getElem?_inj (List.getElem?_eq_some_iff.mp i2).1 hP.nd2).mp (i2.trans j2.symm)
          rw [ij, hj] at hi
          exact congrArg (·.1) (Option.some.inj hi).symm
      refine ⟨_, by rw [if_neg (fun c => c.elim m hy)]; exact if_pos one, fun q hq2 => ?_⟩
      by_cases c : (u, (some y).getD u) ∈ acc
      · rw [if_pos c] at hq2; exact sub q hq2
      · rw [if_neg c] at hq2
        rcases List.mem_append.mp hq2 with h | h
        · exact sub q h
        · rw [List.mem_singleton.mp h]; exact hq
theorem mcells_full {fx : List Str} {P : List (Str × Str)} (hP : MInv fx P) : ∀ (cs : List Cel) (acc : List (Str × Str)), (∀ z ∈ cs.filterMap Cel.txt?, z ∉ fx → z ∈ P.map (·.1)) → (∀ q ∈ acc, q ∈ P) → ∃ acc', mcells fx acc cs (cs.map (Cel.sub (look P))) = some acc' ∧ ∀ q ∈ acc', q ∈ P
  | [], acc, _, sub => ⟨acc, rfl, sub⟩
  | a :: as, acc, k, sub => by
    have tx : (a :: as).filterMap Cel.txt? = a.ts ++ as.filterMap Cel.txt? := by cases a <;> rfl
    rw [tx] at k
    obtain ⟨m, e1, s1⟩ := mcell_full hP (fun z hz => k z (List.mem_append_left _ hz)) sub
    obtain ⟨n, e2, s2⟩ := mcells_full hP as m (fun z hz => k z (List.mem_append_right _ hz)) s1
    refine ⟨n, ?_, s2⟩
    show (mcell fx acc a (a.sub (look P))).bind (fun acc' => mcells fx acc' as (as.map (Cel.sub (look P)))) = some n
    rw [e1]
    exact e2
theorem mrec_full {fx : List Str} {P : List (Str × Str)} (hP : MInv fx P) : ∀ (R : List CRow) (acc : List (Str × Str)), (∀ z ∈ recT R, z ∉ fx → z ∈ P.map (·.1)) → (∀ q ∈ acc, q ∈ P) → ∃ acc', mrec fx acc R (recSub (look P) R) = some acc' ∧ ∀ q ∈ acc', q ∈ P
  | [], acc, _, sub => ⟨acc, rfl, sub⟩
  | a :: as, acc, k, sub => by
    have tx : recT (a :: as) = rowT a ++ recT as := rfl
    rw [tx] at k
    have row : ∃ m, mrow fx acc a (rowSub (look P) a) = some m ∧ ∀ q ∈ m, q ∈ P := by
      cases a with
      | none => exact ⟨acc, rfl, sub⟩
      | some cs => exact mcells_full hP cs acc (fun z hz => k z (List.mem_append_left _ hz)) sub
    obtain ⟨m, e1, s1⟩ := row
    obtain ⟨n, e2, s2⟩ := mrec_full hP as m (fun z hz => k z (List.mem_append_right _ hz)) s1
    refine ⟨n, ?_, s2⟩
    show (mrow fx acc a (rowSub (look P) a)).bind (fun acc' => mrec fx acc' as (recSub (look P) as)) = some n
    rw [e1]
    exact e2
theorem recSub_none (R : List CRow) : recSub (fun _ => none) R = R := by
  have h := recSub_two (f := fun _ => none) (fun z => rfl) R
  have g : recSub (fun _ => none) (recSub (fun _ => none) R) = recSub (fun _ => none) R := recSub_comp fun z _ => rfl
  rw [g] at h
  exact h
/-- of similar records one is the other, replaced by the pairs of their free texts -/
theorem canon_same {fx : List Str} {R S : List CRow} (h : canon fx R = canon fx S) : S = recSub (look ((freeT fx R).zip (freeT fx S))) R := by
  have ll := canon_lens h
  have sR := firstN_len "v" (freeT fx R).length fx
  have sn := firstN_nd "v" (freeT fx R).length fx
  have ndR := freeT_nd fx R
  have ndS := freeT_nd fx S
  have hS : recSub (look ((firstN "v" (freeT fx R).length fx).zip (freeT fx S))) (canon fx S) = S := by
    have c : recSub (look ((firstN "v" (freeT fx R).length fx).zip (freeT fx S))) (canon fx S) = recSub (fun _ => none) S := by
      unfold canon
      rw [← ll]
      refine recSub_comp fun z hz => ?_
      by_cases m : z ∈ freeT fx S
      · obtain ⟨i, hi⟩ := List.mem_iff_getElem?.mp m
        have il := (List.getElem?_eq_some_iff.mp hi).1
        have e2 : (firstN "v" (freeT fx R).length fx)[i]? = some ((firstN "v" (freeT fx R).length fx)[i]'(by omega)) := List.getElem?_eq_getElem (by omega)
        rw [sb_new ndS (by omega) hi e2, sb_new sn (by omega) e2 hi]; rfl
      · rw [sb_old m]
        refine (sb_old fun q => ?_).trans rfl
        by_cases c : z ∈ fx
        · exact firstN_off z q c
        · exact m (freeT_mem.mpr ⟨hz, c⟩)
    rw [c, recSub_none]
  rw [← h] at hS
  conv => lhs; rw [← hS]
  unfold canon
  refine recSub_comp fun z hz => ?_
  by_cases m : z ∈ freeT fx R
  · obtain ⟨i, hi⟩ := List.mem_iff_getElem?.mp m
    have il := (List.getElem?_eq_some_iff.mp hi).1
    have e2 : (firstN "v" (freeT fx R).length fx)[i]? = some ((firstN "v" (freeT fx R).length fx)[i]'(by omega)) := List.getElem?_eq_getElem (by omega)
    have e3 : (freeT fx S)[i]? = some ((freeT fx S)[i]'(by omega)) := List.getElem?_eq_getElem (by omega)
    rw [sb_new ndR (by omega) hi e2, sb_new sn (by omega) e2 e3, sb_new ndR (by omega) hi e3]
  · rw [sb_old m, sb_old m]
    refine sb_old fun q => ?_
    by_cases c : z ∈ fx
    · exact firstN_off z q c
    · exact m (freeT_mem.mpr ⟨hz, c⟩)
/-- the walk finds what there is -/
theorem mrec_iff {fx : List Str} {R S : List CRow} : (canon fx R = canon fx S ∧ mrec fx [] R S = some ((freeT fx R).zip (freeT fx S)) ∧ S = recSub (look ((freeT fx R).zip (freeT fx S))) R) ∨ (¬ canon fx R = canon fx S ∧ mrec fx [] R S = none) := by
  by_cases h : canon fx R = canon fx S
  · have es := canon_same h
    have ll := canon_lens h
    have f1 : ((freeT fx R).zip (freeT fx S)).map (·.1) = freeT fx R := List.map_fst_zip (by omega)
    have f2 : ((freeT fx R).zip (freeT fx S)).map (·.2) = freeT fx S := List.map_snd_zip (by omega)
    have hP : MInv fx ((freeT fx R).zip (freeT fx S)) := ⟨by rw [f1]; exact freeT_nd fx R, by rw [f2]; exact freeT_nd fx S, fun q hq => (freeT_mem.mp (List.of_mem_zip (a := q.1) (b := q.2) hq).1).2, fun q hq => (freeT_mem.mp (List.of_mem_zip (a := q.1) (b := q.2) hq).2).2⟩
    obtain ⟨acc, e, _⟩ := mrec_full hP R [] (fun z hz n => by rw [f1]; exact freeT_mem.mpr ⟨hz, n⟩) (fun _ m => nomatch m)
    rw [← es] at e
    have ea := (mrec_sound e).1
    rw [ea] at e
    exact .inl ⟨h, e, es⟩
  · refine .inr ⟨h, ?_⟩
    cases e : mrec fx [] R S with
    | none => rfl
    | some acc => exact absurd (mrec_sound e).2.1 h
end Tq
namespace Tq
open PySem PySem.Spec PyProof.Rows L2
section
variable {X : Cx} {K : PySem.W.Frag} {H : Hp} {Q : VK} {σ : L2.St} {a p d : Addr} {td ty te : TE}
theorem l_dc {wi : TI} {g : TG} {tt : TT} {tk tv : TE} {vs : List Nat} (q : wi σ H fun J H1 => ∀ D, H1 D = none → ∃ W : Nat → Nat → Hp → Prop, (∃ m, W 0 m (upd H1 D (.dK []))) ∧ ∀ i m H, W i m H →
  (J.stop i H ∧ Q (.ref D) H) ∨ (J.go i H ∧ ∃ Nx : Hp → Prop, (∀ H', Nx H' → ∃ m', m' < m ∧ W (i + 1) m' H') ∧ ∀ x H', J.yld i H x H' → g x (wipe σ vs) H' fun σ2 H2 => wipe σ2 vs = wipe σ vs ∧ tt σ2 H2 fun b H3 =>
    if b = true then tk σ2 H3 fun y H4 => tv σ2 H4 fun z H5 => ∃ kvs k, y = kV k ∧ H5 D = some (.dK kvs) ∧ kvs.length < sizeLine ∧ Nx (upd H5 D (.dK (putK kvs k z))) else Nx H3)) : tDc wi g tt tk tv vs σ H Q := q
def rListD : List V → Hp → VK → Prop := fun xs H Q => ∃ (a : Addr) (kvs : List (Key × V)), xs = [.ref a] ∧ Rd H a (.dK kvs) ∧ ∀ p, H p = none → Q (.ref p) (upd H p (.lst (kvs.map fun kv => kV kv.1)))
theorem c_listD (hc : X.calm = true) : CallR X (.type "list") rListD := call_listD hc
theorem l_listD {kvs : List (Key × V)} (h : H a = some (.dK kvs)) (q : ∀ p, H p = none → Q (.ref p) (upd H p (.lst (kvs.map fun kv => kV kv.1)))) : rListD [.ref a] H Q := ⟨a, kvs, rfl, .inl h, q⟩
theorem val_keys (ks : List Str) (z : Str) : valV (keysT ks) (Sum.inr z) = if z ∈ ks then some (.bl true) else none := by
  induction ks with
  | nil => simp [keysT, valV]
  | cons x r ih =>
    have e : keysT (x :: r) = (Sum.inr x, V.bl true) :: keysT r := rfl
    rw [e]
    by_cases h : x = z
    · rw [valV_pos (p := ((Sum.inr x : Key), V.bl true)) (congrArg Sum.inr h), if_pos (by rw [h]; exact List.mem_cons_self)]
    · rw [valV_neg (p := ((Sum.inr x : Key), V.bl true)) (fun c => h (Sum.inr.inj c)), ih]
      by_cases m : z ∈ r
      · rw [if_pos m, if_pos (List.mem_cons_of_mem _ m)]
      · rw [if_neg m, if_neg (fun c => by
          rcases List.mem_cons.mp c with c | c
          · exact h c.symm
          · exact m c)]
theorem l_notD {ks : List Str} {z : Str} (h : H d = some (.dK (keysT ks))) (q : Q (.bl (!decide (z ∈ ks))) H) : ∃ b o, V.ref d = .ref b ∧ DGet H b (.str z) o ∧ Q (.bl (!o.isSome)) H := by
  refine ⟨d, _, rfl, DGet.k (k := Sum.inr z) h, ?_⟩
  rw [val_keys]
  by_cases m : z ∈ ks
  · rw [if_pos m]; rw [decide_eq_true m] at q; exact q
  · rw [if_neg m]; rw [decide_eq_false m] at q; exact q
theorem l_nd0 (q : ty σ H fun y H1 => td σ H1 fun x H2 => ∃ a o, x = .ref a ∧ DGet H2 a y o ∧ Q (.bl (!o.isSome)) H2) : tDNotIn ty td σ H Q := q
end
theorem freeT_same {a b : List Str} (h : ∀ z, z ∈ a ↔ z ∈ b) (R : List CRow) : freeT a R = freeT b R := by
  have e : fstep a = fstep b := by
    funext acc c
    cases c <;> simp only [fstep, h]
  have e2 : rowF a = rowF b := by
    funext acc r
    unfold rowF; rw [e]
  unfold freeT; rw [e2]
end Tq
/-! enumerate(a tuple) -/
namespace Tq
open PySem PySem.Spec PyProof.Rows L2
open PySem.AutoSeq1 (wpAny_loadPart')
theorem et_new (l : Addr) (its : Array Value) (n : Nat) (dc : Option Addr) (sl : Array (Option Value)) :
    Meets (Builtin.«enumerate.__new__» ⟨[.type "enumerate", .ref l], []⟩) (fun _ R s => s.heap.get? l = some { cls := .type "tuple", dict := dc, data := .seq its n, slots := sl } ∧ R (.ok (.ret (.ref (s.heap.push { cls := .type "tuple_iterator", data := .fields #[.ref l, .int 0 0] }).objs.size))) { s with heap := (s.heap.push { cls := .type "tuple_iterator", data := .fields #[.ref l, .int 0 0] }).push { cls := .type "enumerate", data := .fields #[.none, .bool false, .ref s.heap.objs.size, rawInt 0, .none, .none] } }) :=
  .of_wp fun prog w A R s h => by
    obtain ⟨hp, g, d, tk, os⟩ := s; obtain ⟨hl, h⟩ := h; have hsub := sub_enumerate
    have hL : Heap.IsTuple (Shared.heap ⟨hp, g, d, tk, os⟩) l its := ⟨_, hl, rfl, n, rfl⟩
    wp_walk using wpAny_loadPart' hl
    refine wpAny_stack_any fun st => wpAny_pure ?_
    split
    · rename_i c _ _ _ _ _
      cases (c == Value.type "enumerate") <;> (wp_walk using wpAny_loadPart' hl, wpAny_pyIter_tuple hL; exact ⟨_, rfl, h⟩)
    · wp_walk using wpAny_loadPart' hl, wpAny_pyIter_tuple hL; exact ⟨_, rfl, h⟩
section
variable {prog : Program} {w : World} {A : Around} {E : Value → Shared → Prop} {s : Shared}
theorem et_call {l : Addr} {its : Array Value} {Q : Value → Shared → Prop} (hL : s.heap.IsTuple l its)
    (h : ∀ h', IsEnum h' (s.heap.objs.size + 1) s.heap.objs.size 0 .none → h'.IsTupleIter s.heap.objs.size l 0 → h'.objs.size = s.heap.objs.size + 2 → (∀ b o, s.heap.get? b = some o → h'.get? b = some o) → Q (.ref (s.heap.objs.size + 1)) { s with heap := h' }) :
    wpAny (model prog w) A (call (.type "enumerate") [.ref l]) Q E s := by
  obtain ⟨⟨c, dct, dt, sl⟩, hl, hc, n, hd⟩ := hL
  replace hc : c = .type "tuple" := hc; replace hd : dt = .seq its n := hd; subst hc hd
  refine callType_new F.called_enumerate (by decide) (F.typeCall_enumerate_1 _) (F.newCall_enumerate_1 _) (fun obj => F.args_object_init_2 obj _) F.entry_enumerate_new (et_new l its n dct sl) ⟨hl, ?_⟩
  have hz : (s.heap.push { cls := .type "tuple_iterator", data := .fields #[.ref l, .int 0 0] }).objs.size = s.heap.objs.size + 1 := Heap.size_push ..
  show _ ∧ _
  rw [hz]
  have he : IsEnum ((s.heap.push { cls := .type "tuple_iterator", data := .fields #[.ref l, .int 0 0] }).push { cls := .type "enumerate", data := .fields #[.none, .bool false, .ref s.heap.objs.size, rawInt 0, .none, .none] }) (s.heap.objs.size + 1) s.heap.objs.size 0 .none := by
    have e := Heap.get?_push_size (s.heap.push { cls := .type "tuple_iterator", data := .fields #[.ref l, .int 0 0] }) (o := { cls := .type "enumerate", data := .fields #[.none, .bool false, .ref s.heap.objs.size, rawInt 0, .none, .none] }) rfl
    rw [hz] at e; exact e
  exact ⟨⟨_, he, rfl⟩, h _ he ⟨_, Heap.get?_push_of_some _ (Heap.get?_push_size _ rfl), rfl, rfl⟩ (by rw [Heap.size_push, hz]) fun b o x => Heap.get?_push_of_some _ (Heap.get?_push_of_some _ x)⟩
theorem et_step {e it l : Addr} {i : Nat} {its : Array Value} {x old : Value} {Q : Value → Shared → Prop} (he : IsEnum s.heap e it i old) (hit : s.heap.IsTupleIter it l i) (hl : s.heap.IsTuple l its) (hx : its[i]? = some x) (hne : e ≠ it)
    (hQ : ∀ h', IsEnumOut h' e it ((i : Int) + 1) x s.heap.objs.size → h'.IsTupleIter it l (i + 1) → h'.get? s.heap.objs.size = some { cls := .type "tuple", data := .seq #[.int i s.toks, x] } → h'.objs.size = s.heap.objs.size + 1 → (∀ b o, b ≠ e → b ≠ it → s.heap.get? b = some o → h'.get? b = some o) → Q (.ref s.heap.objs.size) { s with heap := h', toks := s.toks + 1 }) :
    wpAny (model prog w) A (Builtin.«enumerate.__next__» ⟨[.ref e], []⟩) (fun fin s' => ∃ v, fin = .done (.ret v) ∧ Q v s') E s := by
  obtain ⟨hp, g, d, tk, os⟩ := s
  show wpAny _ _ (field (.ref e) 2 >>= _) _ _ _
  refine wpAny_bind (wpAny_field he rfl (x := .ref it) rfl (wpAny_bind (RZ.nextOf_tuple_item hit hl hx fun a1 it1 s1 => ?_)))
  replace s1 : Heap.SameBut it hp a1 := s1
  have e1 : IsEnum a1 e it i old := (s1.2 e hne).trans he
  show wpAny _ _ (field (.ref e) 3 >>= _) _ _ ⟨a1, g, d, tk, os⟩
  refine wpAny_bind (wpAny_field e1 rfl (x := rawInt i) rfl ?_); show wpAny _ _ (field (.ref e) 4 >>= _) _ _ ⟨a1, g, d, tk, os⟩
  refine wpAny_bind (wpAny_field e1 rfl (x := .none) rfl ?_); show wpAny _ _ (mkInt i >>= _) _ _ ⟨a1, g, d, tk, os⟩
  refine wpAny_bind (wpAny_mkInt ?_); show wpAny _ _ (setField (.ref e) 3 (rawInt ((i : Int) + 1)) >>= _) _ _ ⟨a1, g, d, tk + 1, os⟩
  refine wpAny_bind (wpAny_setField_rec e1 (by simp) fun a2 e2 s2 => ?_)
  replace s2 : Heap.SameBut e a1 a2 := s2; replace e2 : IsEnum a2 e it ((i : Int) + 1) old := e2
  show wpAny _ _ (setField (.ref e) 4 .none >>= _) _ _ ⟨a2, g, d, tk + 1, os⟩
  refine wpAny_bind (wpAny_setField_rec e2 (by simp) fun a3 e3 s3 => ?_)
  replace s3 : Heap.SameBut e a2 a3 := s3; replace e3 : IsEnum a3 e it ((i : Int) + 1) old := e3
  show wpAny _ _ (newTuple [.int i tk, x] >>= _) _ _ ⟨a3, g, d, tk + 1, os⟩
  refine wpAny_bind (wpAny_newTuple ?_)
  have e4 : IsEnum (a3.push { cls := .type "tuple", data := .seq #[.int i tk, x] }) e it ((i : Int) + 1) old := Heap.get?_push_of_some _ e3
  generalize q4 : a3.push { cls := .type "tuple", data := .seq #[.int i tk, x] } = a4 at e4
  have sz : a3.objs.size = hp.objs.size := by rw [s3.1, s2.1, s1.1]
  have el : e < hp.objs.size := Heap.lt_size he
  have t4 : a4.get? hp.objs.size = some { cls := .type "tuple", data := .seq #[.int i tk, x] } := by rw [← q4, ← sz]; exact Heap.get?_push_size _ rfl
  have z4 : a4.objs.size = hp.objs.size + 1 := by rw [← q4, Heap.size_push, sz]
  have k4 : ∀ b o, b ≠ e → b ≠ it → hp.get? b = some o → a4.get? b = some o := fun b o be bi hb => by
    rw [← q4]; exact Heap.get?_push_of_some _ (s3.extBut b o be (s2.extBut b o be (s1.extBut b o bi hb)))
  have it4 : a4.IsTupleIter it l (i + 1) := by
    rw [← q4]; exact ((it1.extBut s2.extBut hne.symm).extBut s3.extBut hne.symm).at fun o q => Heap.get?_push_of_some _ q
  show wpAny _ _ (Builtin.SmallTypes.ownedTupleIsFree (.ref e) >>= _) _ _ ⟨a4, g, d, tk + 1, os⟩
  rw [sz]
  clear q4 e3 s3 e2 s2 e1 s1 it1 sz a3 a2 a1
  refine wpAny_bind ?_
  unfold Builtin.SmallTypes.ownedTupleIsFree
  refine wpAny_bind (wpAny_field e4 rfl (x := .none) rfl (wpAny_pure ?_))
  simp only [if_true]
  refine wpAny_bind (wpAny_rule (wpAny_bind (wpAny_field e4 rfl (x := old) rfl (wpAny_bind (wpAny_setField_rec e4 (by simp) fun a5 e5 s5 => ?_)))))
  replace s5 : Heap.SameBut e a4 a5 := s5; replace e5 : IsEnum a5 e it ((i : Int) + 1) x := e5
  show wpAny _ _ (Builtin.SmallTypes.ownedTupleHandOut (.ref e) (.ref hp.objs.size) >>= _) _ _ ⟨a5, g, d, tk + 1, os⟩
  refine wpAny_bind ?_
  unfold Builtin.SmallTypes.ownedTupleHandOut
  refine wpAny_bind (wpAny_setField_rec e5 (by simp) fun a6 e6 s6 => ?_)
  replace s6 : Heap.SameBut e a5 a6 := s6; replace e6 : IsEnumOut a6 e it ((i : Int) + 1) x hp.objs.size := e6
  refine wpAny_setField_rec e6 (by simp) fun a7 e7 s7 => ?_
  replace s7 : Heap.SameBut e a6 a7 := s7; replace e7 : IsEnumOut a7 e it ((i : Int) + 1) x hp.objs.size := e7
  refine wpAny_bind (wpAny_letGo (wpAny_pure ⟨_, rfl, hQ a7 e7 (((it4.extBut s5.extBut hne.symm).extBut s6.extBut hne.symm).extBut s7.extBut hne.symm) ?_ (by rw [s7.1, s6.1, s5.1, z4]) fun b o be bi hb => s7.extBut b o be (s6.extBut b o be (s5.extBut b o be (k4 b o be bi hb)))⟩))
  exact s7.extBut _ _ (Nat.ne_of_gt el) (s6.extBut _ _ (Nat.ne_of_gt el) (s5.extBut _ _ (Nat.ne_of_gt el) t4))
theorem et_next {e it l : Addr} {i : Nat} {its : Array Value} {x old : Value} {Q : Option Value → Shared → Prop} (he : IsEnum s.heap e it i old) (hit : s.heap.IsTupleIter it l i) (hl : s.heap.IsTuple l its) (hx : its[i]? = some x) (hne : e ≠ it)
    (hQ : ∀ h', IsEnumOut h' e it ((i : Int) + 1) x s.heap.objs.size → h'.IsTupleIter it l (i + 1) → h'.get? s.heap.objs.size = some { cls := .type "tuple", data := .seq #[.int i s.toks, x] } → h'.objs.size = s.heap.objs.size + 1 → (∀ b o, b ≠ e → b ≠ it → s.heap.get? b = some o → h'.get? b = some o) → Q (some (.ref s.heap.objs.size)) { s with heap := h', toks := s.toks + 1 }) :
    wpAny (model prog w) A (pyNext (.ref e)) Q E s := by
  have ty : s.TypeIs (.ref e) "enumerate" := ⟨_, he, rfl⟩
  unfold pyNext
  exact wpAny_bind (wpAny_attempt (wpAny_callSpecial?_slot (name := Str.ofString "__next__") ty F.slot_enumerate_next (wpAny_call_entry F.slot_enumerate_next ty F.entry_enumerate_next (et_step he hit hl hx hne fun h' a b c d k => wpAny_pure (hQ h' a b c d k)) (F.args_enumerate_next_1 _))))
theorem et_end {e it l : Addr} {i : Nat} {its : Array Value} {old : Value} {Q : Option Value → Shared → Prop} (hh : A.handled = none) (he : IsEnum s.heap e it i old) (hit : s.heap.IsTupleIter it l i) (hl : s.heap.IsTuple l its) (hx : its[i]? = none)
    (hQ : ∀ h', Heap.ExtBut it s.heap h' → Q none { s with heap := h' }) : wpAny (model prog w) A (pyNext (.ref e)) Q E s := by
  have ty : s.TypeIs (.ref e) "enumerate" := ⟨_, he, rfl⟩
  unfold pyNext
  refine wpAny_bind (wpAny_attempt (wpAny_callSpecial?_slot (name := Str.ofString "__next__") ty F.slot_enumerate_next (wpAny_call_entry F.slot_enumerate_next ty F.entry_enumerate_next ?_ (F.args_enumerate_next_1 _))))
  show wpAny _ _ (field (.ref e) 2 >>= _) _ _ _
  refine wpAny_bind (wpAny_field he rfl (x := .ref it) rfl (wpAny_bind (RZ.nextOf_tuple_end hh hit hl hx fun h' x he' hx' => ?_)))
  obtain ⟨o, ho, hc⟩ := hx'
  exact wpAny_bind (wpAny_isInstance (T := "StopIteration") (b := true) ⟨o, ho, hc⟩ isSubtype_stop (wpAny_pure (hQ _ he')))
end
/-- the tuple at a, each item in a new pair -/
def IteT (K : PySem.W.Frag) (a : Addr) : It :=
  ⟨fun i H => ∃ (xs : List V) (x : V), SqT K H a xs ∧ xs[i]? = some x, fun i H v H' => ∃ T x, v = .ref T ∧ H T = none ∧ H' = upd H T (.tup [.int (i : Nat), x]) ∧ ∀ xs, SqT K H a xs → xs[i]? = some x, fun i H => ∃ xs : List V, SqT K H a xs ∧ xs.length ≤ i⟩
theorem et_turn {P : Program} {w : World} {K : PySem.W.Frag} {elts : List Expr} {kk : Nat} {tpos : Pos} (a e it : Addr) :
    Turn P w K (.Tuple elts kk tpos) (IteT K a) [e, it] e (fun i h => (∃ old, IsEnum h e it ((i : Nat) : Int) old) ∧ h.IsTupleIter it a i ∧ e ≠ it) where
  mem := by simp
  obj := fun i h st b hb => by
    obtain ⟨⟨old, he⟩, ⟨o, ho, hc, hd⟩, _⟩ := st
    have e' : b = e ∨ b = it := by simpa using hb
    rcases e' with z | z <;> rw [z]
    · exact ⟨_, he, fun v q => nomatch q⟩
    · exact ⟨o, ho, fun v q => by rw [hd] at q; cases q⟩
  keep := fun i h h' st k => ⟨st.1.imp fun old he => k e (by simp) _ he, st.2.1.at fun o q => k it (by simp) o q, st.2.2⟩
  item := by
    intro X hP hw hK hc i pins s σ H E I hf st hg
    subst hP hw hK
    obtain ⟨⟨old, he⟩, hit, hne⟩ := st; obtain ⟨xs, x, hq, hx⟩ := hg
    obtain ⟨its, rv, p, hz⟩ := I.tuple hq; obtain ⟨u, hu, ru⟩ := rv.get hx
    have hel : e < s.heap.objs.size := Heap.lt_size he
    have hil : it < s.heap.objs.size := by obtain ⟨_, q, _⟩ := hit; exact Heap.lt_size q
    refine et_next he hit p (x := u) (by simpa using hu) hne fun h' ho hit' hT hsz hk => ⟨_, rfl, wpAny_letOwnedTupleGo_enum (s := { s with heap := h', toks := s.toks + 1 }) ho fun h'' he' sb => ?_⟩
    have hT2 : h''.get? s.heap.objs.size = some { cls := .type "tuple", data := .seq #[.int i s.toks, u] } := (sb.2 _ (Nat.ne_of_gt hel)).trans hT
    have new : ObjOk X.prog X.w (upd H s.heap.objs.size (.tup [.int (i : Nat), x])) h'' s.heap.objs.size (.tup [.int (i : Nat), x]) := ⟨by show 2 ≤ sizeLine; decide, [.int i s.toks, u], .cons ⟨_, rfl⟩ (.cons ru .nil), ⟨_, hT2, rfl, _, rfl⟩⟩
    have I1 : Inv X pins σ (upd H s.heap.objs.size (.tup [.int (i : Nat), x])) { s with heap := h'', toks := s.toks + 1 } := I.turnedNew (ch := [e, it]) (fun b ob hb q => (sb.2 b (fun z => hb (by simp [z]))).trans (hk b ob (fun z => hb (by simp [z])) (fun z => hb (by simp [z])) q)) hf (Nat.le_refl _) new
    refine ⟨.ref s.heap.objs.size, _, I1, rfl, ⟨_, x, rfl, I.hok.fresh (Nat.le_refl _), rfl, fun ys hy => by rw [I.tuple_inj hy hq]; exact hx⟩, ⟨⟨u, ?_⟩, hit'.at fun o q => (sb.2 it (Ne.symm hne)).trans q, hne⟩, fun b hb => ?_⟩
    · rw [show ((i + 1 : Nat) : Int) = (i : Int) + 1 by omega]; exact he'
    · have hb' : b < s.heap.objs.size := by
        have e' : b = e ∨ b = it := by simpa using hb
        rcases e' with z | z <;> rw [z]
        · exact hel
        · exact hil
      rw [upd_ne (Nat.ne_of_lt hb')]; exact (hf b hb).1
  done := by
    intro X hP hw hK hc i pins s σ H E I hf st hg
    subst hP hw hK
    obtain ⟨⟨old, he⟩, hit, hne⟩ := st; obtain ⟨xs, hq, hx⟩ := hg
    obtain ⟨its, rv, p, hz⟩ := I.tuple hq; obtain ⟨f0, f1, f2, f3, f4, f5⟩ := hf it (by simp)
    have hl := rv.length
    exact et_end (I.ok.hd hc) he hit p (by simp; omega) fun h' eb => ⟨rfl, I.turned (t' := s.toks) (fun b o hb q => eb b o hb q) f0 f1 f3 f4 f5⟩
  self := fun A i s Q E st h => st.1.elim fun _ he => wpAny_pyIter_enum he h
def iEnT (K : PySem.W.Frag) (ta : TA) : TI := fun σ H R => ta σ H fun vs H1 => ∃ a xs, vs = [.ref a] ∧ SqT K H1 a xs ∧ R (IteT K a) H1
theorem pi_enT {X : Cx} {e : Expr} {ta : TA} {p pos tpos : Pos} {elts : List Expr} {kk : Nat} (hg : Gl X "enumerate") (hm : X.mg "enumerate" = none) (ha : PA X [e] ta) (hs : starEach [e] X.env = [(false, eval e X.env)] := by rfl) :
    PI X (.Tuple elts kk tpos) (.Call (.Name "enumerate" p) [e] [] pos) (iEnT X.K ta) := by
  refine ⟨fun pins s σ H R I h => Call_ (ld_blt I hg hm boot_enumerate (PyProof.Rows.callWith_type1 (thn (ha.run pos pins s σ H _ I h) fun us s1 ⟨vs, H1, I1, r1, q1⟩ => ?_) hs rfl))⟩
  obtain ⟨a, xs, ex, hq, q⟩ := q1
  subst ex
  cases r1 with
  | cons r rr =>
    cases rr; cases r
    obtain ⟨its, rv, p', hz⟩ := I1.tuple hq
    refine et_call p' fun h' he hit hsz hk => wpAny_pyIter_enum he ?_
    have I2 : Inv X pins σ H1 { s1 with heap := h' } := I1.kept (t' := s1.toks) hk
    refine ⟨s1.heap.objs.size + 1, [s1.heap.objs.size + 1, s1.heap.objs.size], _, _, H1, rfl, I2, et_turn a (s1.heap.objs.size + 1) s1.heap.objs.size, ⟨⟨.none, he⟩, hit, Nat.succ_ne_self _⟩, fun b hb => ?_, q⟩
    have e' : b = s1.heap.objs.size + 1 ∨ b = s1.heap.objs.size := by simpa using hb
    have hle : s1.heap.objs.size ≤ b := by
      rcases e' with z | z <;> rw [z]
      · exact Nat.le_add_right _ _
      · exact Nat.le_refl _
    exact I1.fpOk hle (I1.hok.fresh hle)
theorem k_enT {X : Cx} {K : PySem.W.Frag} {e : Expr} {ta : TA} {p pos tpos : Pos} {elts : List Expr} {kk : Nat} (h : X.K = K) (hg : Gl X "enumerate") (hm : X.mg "enumerate" = none) (ha : PA X [e] ta) (hs : starEach [e] X.env = [(false, eval e X.env)] := by rfl) :
    PI X (.Tuple elts kk tpos) (.Call (.Name "enumerate" p) [e] [] pos) (iEnT K ta) := h ▸ pi_enT hg hm ha hs
section
variable {K : PySem.W.Frag} {σ : L2.St} {H : Hp} {a : Addr} {xs : List V} {tr : TA} {te : TE}
theorem l_enT {R : It → Hp → Prop} (q : tr σ H fun vs H1 => ∃ a xs, vs = [.ref a] ∧ SqT K H1 a xs ∧ R (IteT K a) H1) : iEnT K tr σ H R := q
theorem for_enT {g : TG} {tb : TS} {D : Ends} (Pv : Nat → L2.St → Hp → Prop) (h0 : Pv 0 σ H) (hl : ∀ i σ H, i ≤ xs.length → Pv i σ H → SqT K H a xs)
    (hs : ∀ i x σ H T, xs[i]? = some x → Pv i σ H → H T = none → g (.ref T) σ (upd H T (.tup [.int (i : Nat), x])) fun σ2 H2 => tb { D with nx := Pv (i + 1), ct := Pv (i + 1), bk := D.nx } σ2 H2) (hd : ∀ σ H, Pv xs.length σ H → D.nx σ H) :
    ∃ W : Nat → Nat → L2.St → Hp → Prop, (∃ m, W 0 m σ H) ∧ ∀ i m σ H, W i m σ H →
      ((IteT K a).stop i H ∧ D.nx σ H) ∨ ((IteT K a).go i H ∧ ∃ N : L2.St → Hp → Prop, (∀ σ' H', N σ' H' → ∃ m', m' < m ∧ W (i + 1) m' σ' H') ∧ ∀ v H', (IteT K a).yld i H v H' → g v σ H' fun σ2 H2 => tb { D with nx := N, ct := N, bk := D.nx } σ2 H2) := by
  refine ⟨fun i m σ H => m = xs.length - i ∧ i ≤ xs.length ∧ Pv i σ H, ⟨xs.length, rfl, Nat.zero_le _, h0⟩, ?_⟩
  rintro i m σ H ⟨rfl, hi, p⟩
  have q := hl i σ H hi p
  by_cases lt : i < xs.length
  · refine .inr ⟨⟨xs, xs[i], q, List.getElem?_eq_getElem lt⟩, Pv (i + 1), fun σ' H' p' => ⟨xs.length - (i + 1), by omega, rfl, lt, p'⟩, fun v H' y => ?_⟩
    obtain ⟨T, x, rfl, n, rfl, e⟩ := y
    exact hs i x σ H T (e xs q) p n
  · obtain rfl : i = xs.length := by omega
    exact .inl ⟨⟨xs, q, Nat.le_refl _⟩, hd σ H p⟩
end
theorem ixN_nat {n i : Nat} (h : i < n) : ixN n (i : Int) = some i := by
  unfold ixN
  rw [if_pos (by omega), if_pos (by omega), Int.toNat_natCast]
end Tq
namespace Tq
open PySem PySem.Spec PyProof.Rows L2
theorem snoc_ind {α : Type} {P : List α → Prop} (h0 : P []) (hs : ∀ r q, P r → P (r ++ [q])) (l : List α) : P l := by
  have g : ∀ l : List α, P l.reverse := fun l => by
    induction l with
    | nil => exact h0
    | cons x r ih => rw [List.reverse_cons]; exact hs _ _ ih
  have := g l.reverse
  rwa [List.reverse_reverse] at this
/-- a dict whose keys occur once -/
theorem dicT_nd (prs : List (Str × Str)) : (prs.map (·.1)).Nodup → dicT prs = prs.map fun p => ((Sum.inr p.1 : Key), V.str p.2) := by
  refine snoc_ind (P := fun prs => (prs.map (·.1)).Nodup → dicT prs = prs.map fun p => ((Sum.inr p.1 : Key), V.str p.2)) (fun _ => rfl) (fun r q ih h => ?_) prs
  rw [List.map_append] at h
  have h1 := (List.nodup_append.mp h)
  rw [show [q] = [(q.1, q.2)] from rfl, dicT_snoc, ih h1.1, List.map_append]
  unfold putK
  rw [if_neg]
  · rfl
  · intro c
    obtain ⟨z, hz, e⟩ := List.any_eq_true.mp c
    obtain ⟨u, hu, rfl⟩ := List.mem_map.mp hz
    have e2 : u.1 = q.1 := Sum.inr.inj (of_decide_eq_true e)
    exact h1.2.2 u.1 (List.mem_map.mpr ⟨u, hu, rfl⟩) q.1 (by simp) e2
/-- a pair that stands already changes nothing -/
theorem dicT_old {prs : List (Str × Str)} {a b : Str} (h : (prs.map (·.1)).Nodup) (m : (a, b) ∈ prs) : dicT (prs ++ [(a, b)]) = dicT prs := by
  rw [dicT_snoc, dicT_nd prs h]
  unfold putK
  rw [if_pos (List.any_eq_true.mpr ⟨_, List.mem_map.mpr ⟨_, m, rfl⟩, by simp⟩), List.map_map]
  refine List.map_congr_left fun q hq => ?_
  simp only [Function.comp]
  by_cases e : q.1 = a
  · have e2 := look_of h hq
    have e3 := look_of h m
    rw [e] at e2
    rw [e2] at e3
    rw [if_pos (congrArg Sum.inr e), Option.some.inj e3]
  · rw [if_neg (fun c => e (Sum.inr.inj c))]
/-- .. either way -/
theorem dicT_step {prs : List (Str × Str)} {a b : Str} (h : (prs.map (·.1)).Nodup) : dicT (prs ++ [(a, b)]) = dicT (if (a, b) ∈ prs then prs else prs ++ [(a, b)]) := by
  split
  · rename_i m; exact dicT_old h m
  · rfl
section
variable {X : Cx} {K : PySem.W.Frag} {H : Hp} {Q : VK} {σ : L2.St} {a p d : Addr} {x y v : V} {xs ys : List V} {td ty te ta tb : TE}
theorem row_tru {r : CRow} (h : Dp K H v (rowD r)) : TruV K v H (!(r.getD []).isEmpty) := by
  cases r with
  | none => rw [dp_none h]; rfl
  | some cs =>
    obtain ⟨p, xs, rfl, hS, hA⟩ := dp_tup h
    have l := hA.len
    rw [List.length_map] at l
    refine .inr (.inl ⟨xs, hS, ?_⟩)
    show (!cs.isEmpty) = !xs.isEmpty
    cases cs <;> cases xs <;> simp at l <;> rfl
theorem c_sum (h : X.K = K) (hc : X.calm = true) : CallR X (.builtin "sum") (rSum K) := h ▸ cr_sum hc
theorem l_sum {ns : List Int} (h : SqL K H a (ns.map V.int)) (q : Q (.int ns.sum) H) : rSum K [.ref a] H Q := ⟨a, ns, rfl, h, q⟩
theorem k_catA (h : X.K = K) : OpR X (binaryOp .Add) (rCatA K) := h ▸ op_catA
theorem k_slA (h : X.K = K) : SlR X (rSlA K) := h ▸ sl_tupA
theorem l_neC {a b : Cel} (o1 : CelOk a = true) (o2 : CelOk b = true) (h1 : Dp K H x a.d) (h2 : Dp K H y b.d) (q : Q (.bl (!decide (a = b))) H) : rNeD K x y H Q := by
  have s : ∀ c : Cel, CelOk c = true → SeqAt.shaped c.d = true := fun c o => by
    cases c with
    | null => rfl
    | txt z =>
      have o : PyData.strOk z = true := o
      simp [SeqAt.shaped, Cel.d, PyData.canLay0, PyData.depth, o]
    | val n =>
      have o : PyData.strOk n = true := o
      simp [SeqAt.shaped, Cel.d, PyData.canLay0, PyData.canLayAll0, PyData.depth, PyData.depthAll, o]
  exact ⟨_, _, h1, h2, s a o1, s b o2, by rw [eqv_cel]; exact q⟩
theorem l_lockE {t : TE} {u : HO} (h : H d = some u) (m : Mut (some u)) (q : ∀ od, t σ (upd H d (.frz od u)) fun v H' => H' d = some (.frz od u) ∧ Q v (upd H' d u)) : tLockE t σ H Q := ⟨d, u, h, m, q⟩
theorem l_ikeys {R : It → Hp → Prop} (q : td σ H fun x H1 => ∃ d o, x = .ref d ∧ ((∃ kvs, H1 d = some (.frz o (.dK kvs)) ∧ R (Itk d o kvs) H1) ∨ ∃ kvs, H1 d = some (.frz o (.dT kvs)) ∧ R (Itkt d o kvs) H1)) : iKeys td σ H R := q
theorem lc_keys {o : Obj} {kvs : List (Key × V)} {g : TG} {tt : TT} {vs : List Nat} {H1 : Hp} {D : Addr} {Qd : Hp → Prop} (Pv : Nat → Hp → Prop) (h0 : Pv 0 (upd H1 D (.lst []))) (hl : ∀ i H, i ≤ kvs.length → Pv i H → H d = some (.frz o (.dK kvs)))
    (hs : ∀ i k v H, kvs[i]? = some (k, v) → Pv i H → g (kV k) (wipe σ vs) H fun σ2 H2 => wipe σ2 vs = wipe σ vs ∧ tt σ2 H2 fun b H3 =>
      if b = true then te σ2 H3 fun y H4 => ∃ acc, H4 D = some (.lst acc) ∧ acc.length < sizeLine ∧ Pv (i + 1) (upd H4 D (.lst (acc ++ [y]))) else Pv (i + 1) H3) (hd : ∀ H, Pv kvs.length H → Qd H) :
    ∃ W : Nat → Nat → Hp → Prop, (∃ m, W 0 m (upd H1 D (.lst []))) ∧ ∀ i m H, W i m H →
      ((Itk d o kvs).stop i H ∧ Qd H) ∨ ((Itk d o kvs).go i H ∧ ∃ Nx : Hp → Prop, (∀ H', Nx H' → ∃ m', m' < m ∧ W (i + 1) m' H') ∧ ∀ x H', (Itk d o kvs).yld i H x H' → g x (wipe σ vs) H' fun σ2 H2 => wipe σ2 vs = wipe σ vs ∧ tt σ2 H2 fun b H3 =>
        if b = true then te σ2 H3 fun y H4 => ∃ acc, H4 D = some (.lst acc) ∧ acc.length < sizeLine ∧ Nx (upd H4 D (.lst (acc ++ [y]))) else Nx H3) := by
  refine ⟨fun i m H => m = kvs.length - i ∧ i ≤ kvs.length ∧ Pv i H, ⟨kvs.length, rfl, Nat.zero_le _, h0⟩, ?_⟩
  rintro i m H ⟨rfl, hi, p⟩
  have q := hl i H hi p
  by_cases lt : i < kvs.length
  · refine .inr ⟨⟨q, lt⟩, Pv (i + 1), fun H' p' => ⟨kvs.length - (i + 1), by omega, rfl, lt, p'⟩, fun x H' y => ?_⟩
    obtain ⟨rfl, k, v, e, rfl⟩ := y
    exact hs i k v _ e p
  · obtain rfl : i = kvs.length := by omega
    exact .inl ⟨⟨q, Nat.le_refl _⟩, hd H p⟩
end
end Tq
namespace Tq
open PySem PySem.Spec PyProof.Rows L2
def swp (acc : List (Str × Str)) : List (Str × Str) := acc.map fun q => (q.2, q.1)
theorem swp_fst (acc : List (Str × Str)) : (swp acc).map (·.1) = acc.map (·.2) := by
  unfold swp; rw [List.map_map]; rfl
theorem swp_snoc (acc : List (Str × Str)) (a b : Str) : swp (acc ++ [(a, b)]) = swp acc ++ [(b, a)] := by
  unfold swp; rw [List.map_append]; rfl
theorem swp_if (acc : List (Str × Str)) (a b : Str) : (if (b, a) ∈ swp acc then swp acc else swp acc ++ [(b, a)]) = swp (if (a, b) ∈ acc then acc else acc ++ [(a, b)]) := by
  have e : (b, a) ∈ swp acc ↔ (a, b) ∈ acc := by
    unfold swp
    rw [List.mem_map]
    constructor
    · rintro ⟨q, hq, e⟩
      have e1 := congrArg Prod.fst e
      have e2 := congrArg Prod.snd e
      have : q = (a, b) := Prod.ext e2 e1
      rwa [this] at hq
    · exact fun h => ⟨_, h, rfl⟩
  by_cases h : (a, b) ∈ acc
  · rw [if_pos (e.mpr h), if_pos h]
  · rw [if_neg (fun c => h (e.mp c)), if_neg h, swp_snoc]
/-- the two dicts tell whether the pair fits -/
theorem fit_iff {fx : List Str} {acc : List (Str × Str)} (h : MInv fx acc) (z y : Str) : ((look acc z).getD y = y ∧ (look (swp acc) y).getD z = z) ↔ ∀ q ∈ acc, (q.1 = z ↔ q.2 = y) := by
  have nd2 : ((swp acc).map (·.1)).Nodup := by rw [swp_fst]; exact h.nd2
  have l1 : ∀ q ∈ acc, look acc q.1 = some q.2 := fun q m => look_of h.nd1 m
  have l2 : ∀ q ∈ acc, look (swp acc) q.2 = some q.1 := fun q m => look_of nd2 (List.mem_map.mpr ⟨q, m, rfl⟩)
  constructor
  · rintro ⟨a, b⟩ q m
    constructor
    · intro e
      have := l1 q m
      rw [e] at this
      rw [this] at a
      exact a
    · intro e
      have := l2 q m
      rw [e] at this
      rw [this] at b
      exact b
  · intro c
    constructor
    · by_cases g : ∃ q ∈ acc, q.1 = z
      · obtain ⟨q, m, e⟩ := g
        have := l1 q m
        rw [e] at this
        rw [this]
        exact (c q m).mp e
      · rw [look_none fun q m e => g ⟨q, m, e.symm⟩]; rfl
    · by_cases g : ∃ q ∈ acc, q.2 = y
      · obtain ⟨q, m, e⟩ := g
        have := l2 q m
        rw [e] at this
        rw [this]
        exact (c q m).mpr e
      · rw [look_none fun q m e => by
          obtain ⟨u, hu, rfl⟩ := List.mem_map.mp m
          exact g ⟨u, hu, e.symm⟩]; rfl
theorem mcells_len {fx : List Str} : ∀ {cs ds : List Cel} {acc : List (Str × Str)}, cs.length ≠ ds.length → mcells fx acc cs ds = none
  | [], [], _, h => absurd rfl h
  | [], _ :: _, _, _ => rfl
  | _ :: _, [], _, _ => rfl
  | a :: as, b :: bs, acc, h => by
    rw [mcells]
    cases mcell fx acc a b with
    | none => rfl
    | some x => exact mcells_len (fun e => h (by simp [e]))
theorem mrec_len {fx : List Str} : ∀ {R S : List CRow} {acc : List (Str × Str)}, R.length ≠ S.length → mrec fx acc R S = none
  | [], [], _, h => absurd rfl h
  | [], _ :: _, _, _ => rfl
  | _ :: _, [], _, _ => rfl
  | a :: as, b :: bs, acc, h => by
    rw [mrec]
    cases mrow fx acc a b with
    | none => rfl
    | some x => exact mrec_len (fun e => h (by simp [e]))
theorem mrec_at {fx : List Str} {R S : List CRow} {acc : List (Str × Str)} {i : Nat} {a b : CRow} (h1 : R[i]? = some a) (h2 : S[i]? = some b) : mrec fx acc (R.drop i) (S.drop i) = (mrow fx acc a b).bind fun acc' => mrec fx acc' (R.drop (i + 1)) (S.drop (i + 1)) := by
  obtain ⟨l1, e1⟩ := List.getElem?_eq_some_iff.mp h1
  obtain ⟨l2, e2⟩ := List.getElem?_eq_some_iff.mp h2
  rw [← List.getElem_cons_drop l1, ← List.getElem_cons_drop l2, e1, e2, mrec]
theorem mcells_at {fx : List Str} {R S : List Cel} {acc : List (Str × Str)} {i : Nat} {a b : Cel} (h1 : R[i]? = some a) (h2 : S[i]? = some b) : mcells fx acc (R.drop i) (S.drop i) = (mcell fx acc a b).bind fun acc' => mcells fx acc' (R.drop (i + 1)) (S.drop (i + 1)) := by
  obtain ⟨l1, e1⟩ := List.getElem?_eq_some_iff.mp h1
  obtain ⟨l2, e2⟩ := List.getElem?_eq_some_iff.mp h2
  rw [← List.getElem_cons_drop l1, ← List.getElem_cons_drop l2, e1, e2, mcells]
theorem mcell_inv {fx : List Str} {acc acc' : List (Str × Str)} {a b : Cel} (h : MInv fx acc) (e : mcell fx acc a b = some acc') : MInv fx acc' := (mcell_ok h e).1
theorem mcell_tt (fx : List Str) (acc : List (Str × Str)) (z y : Str) : mcell fx acc (.txt z) (.txt y) = if z ∈ fx ∨ y ∈ fx then (if z = y then some acc else none) else if (∀ q ∈ acc, (q.1 = z ↔ q.2 = y)) then some (if (z, y) ∈ acc then acc else acc ++ [(z, y)]) else none := rfl
theorem mcell_ne {fx : List Str} {acc : List (Str × Str)} {a b : Cel} (h : ¬ (a.isT = true ∧ b.isT = true)) : mcell fx acc a b = if a = b then some acc else none := by
  cases a <;> cases b <;> first | rfl | (exact absurd ⟨rfl, rfl⟩ h)
theorem mcell_few {fx : List Str} {acc acc' : List (Str × Str)} {a b : Cel} (e : mcell fx acc a b = some acc') : acc'.length ≤ acc.length + 1 := by
  have same : ∀ x y : Cel, (if x = y then some acc else none) = some acc' → acc'.length ≤ acc.length + 1 := fun x y e => by
    split at e
    · cases e; omega
    · cases e
  by_cases h : a.isT = true ∧ b.isT = true
  · cases a <;> cases b <;> first | exact absurd h.1 Bool.false_ne_true | exact absurd h.2 Bool.false_ne_true | skip
    rw [mcell_tt] at e
    split at e
    · split at e
      · cases e; omega
      · cases e
    · split at e
      · cases e
        split
        · omega
        · simp
      · cases e
  · rw [mcell_ne h] at e
    exact same a b e
theorem at_nat {α : Type} {xs : List α} {i : Nat} {v : α} (h : xs[i]? = some v) : atI xs (i : Int) = some v := by
  have l : i < xs.length := (List.getElem?_eq_some_iff.mp h).1
  unfold atI ixN
  rw [if_pos (by omega), if_pos (by omega), Int.toNat_natCast]
  exact h
section
variable {K : PySem.W.Frag} {H : Hp} {xs : List V}
theorem dp_of {α : Type} {f : α → PyData} {ys : List α} {i : Nat} {r : α} (hA : DpAll K H xs (ys.map f)) (h : ys[i]? = some r) : ∃ v, xs[i]? = some v ∧ atI xs (i : Int) = some v ∧ Dp K H v (f r) := by
  have l : i < ys.length := (List.getElem?_eq_some_iff.mp h).1
  have e := hA.len
  rw [List.length_map] at e
  have hx : xs[i]? = some (xs[i]'(by omega)) := List.getElem?_eq_getElem (by omega)
  obtain ⟨d, hd, hv⟩ := hA.at hx
  rw [List.getElem?_map, h] at hd
  cases hd
  exact ⟨_, hx, at_nat hx, hv⟩
theorem celN_tk {R : List CRow} {i : Nat} {r : CRow} (h : R[i]? = some r) : celN (R.take (i + 1)) = celN (R.take i) + (r.getD []).length := by
  rw [List.take_add_one, h]; exact celN_snoc _ _
theorem celN_take_le (R : List CRow) (i : Nat) : celN (R.take i) ≤ celN R := by
  have e : celN R = celN (R.take i) + celN (R.drop i) := by
    unfold celN
    rw [← List.sum_append, ← List.map_append, List.take_append_drop]
  omega
theorem RecOk.at {R : List CRow} {i j : Nat} {cs : List Cel} {c : Cel} (o : RecOk R) (h : R[i]? = some (some cs)) (h2 : cs[j]? = some c) : CelOk c = true := o _ (List.mem_of_getElem? h) c (List.mem_of_getElem? h2)
end
theorem mapS_getD (o : Option Str) (y : Str) : (o.map V.str).getD (.str y) = .str (o.getD y) := by cases o <;> rfl
theorem TK.frz {H : Hp} {p : Addr} {o : Obj} {u : HO} {kvs : List (Key × V)} (h : H p = some (.frz o (.dK kvs))) : TK H (L2.upd H p u) := fun b ys r => by
  have nb : b ≠ p := by
    rintro rfl
    rcases r with r | ⟨o2, r⟩ <;> rw [h] at r <;> cases r
  rcases r with r | ⟨o2, r⟩
  · exact .inl (by rw [upd_ne nb]; exact r)
  · exact .inr ⟨o2, by rw [upd_ne nb]; exact r⟩
theorem dg_frz {H : Hp} {a : Addr} {o : Obj} {prs : List (Str × Str)} {z u : Str} (h : H a = some (.frz o (.dK (dicT prs)))) (e : look prs z = some u) : DGet H a (.str z) (some (V.str u)) := by
  have v : some (V.str u) = valV (dicT prs) (Sum.inr z) := by rw [valV_dicT, e]; rfl
  exact .inl ⟨_, Sum.inr z, .inr ⟨o, h⟩, rfl, v⟩
end Tq
namespace Tq
open PySem PySem.Spec PyProof.Rows L2
section
variable {K : PySem.W.Frag} {H : Hp} {Q : VK} {a b p : Addr} {x y v : V} {xs ys : List V}
theorem dpAll_take : ∀ {xs : List V} {ds : List PyData} (n : Nat), DpAll K H xs ds → DpAll K H (xs.take n) (ds.take n)
  | _, _, 0, _ => .nil
  | [], [], n + 1, _ => .nil
  | x :: xs, d :: ds, n + 1, .cons h r => .cons h (dpAll_take n r)
theorem dpAll_drop : ∀ {xs : List V} {ds : List PyData} (n : Nat), DpAll K H xs ds → DpAll K H (xs.drop n) (ds.drop n)
  | _, _, 0, h => h
  | [], [], n + 1, _ => .nil
  | x :: xs, d :: ds, n + 1, .cons h r => dpAll_drop n r
theorem dpAll_app : ∀ {xs ys : List V} {ds es : List PyData}, DpAll K H xs ds → DpAll K H ys es → DpAll K H (xs ++ ys) (ds ++ es)
  | [], _, [], _, _, h => h
  | x :: xs, _, d :: ds, _, .cons h r, h2 => .cons h (dpAll_app r h2)
theorem dpAll_set : ∀ {xs : List V} {ds : List PyData} {v : V} {d : PyData} (n : Nat), DpAll K H xs ds → Dp K H v d → DpAll K H (xs.set n v) (ds.set n d)
  | [], [], _, _, _, _, _ => .nil
  | x :: xs, e :: ds, _, _, 0, .cons h r, g => .cons g r
  | x :: xs, e :: ds, _, _, n + 1, .cons h r, g => .cons h (dpAll_set n r g)
theorem l_catA (h1 : SqT K H a xs) (h2 : SqT K H b ys) (n : xs.length + ys.length ≤ 1000000) (q : ∀ r H', Same H H' → SqT K H' r (xs ++ ys) → Q (.ref r) H') : rCatA K (.ref a) (.ref b) H Q := by
  refine ⟨a, b, xs, ys, rfl, rfl, h1, h2, fits n, fun e => ?_, fun _ e => ?_, fun _ _ r nr => ?_⟩
  · subst e; exact q b H (fun _ _ h => h) h2
  · subst e; exact q a H (fun _ _ h => h) (by rw [List.append_nil]; exact h1)
  · exact q r _ (new_same nr) (sqT upd_same)
theorem cut_whole {lo hi : Option Int} (h : HT.sIx xs.length 0 lo = 0 ∧ HT.sIx xs.length xs.length hi = xs.length) : cutV xs lo hi = xs := by
  unfold cutV
  rw [h.1, h.2]; simp
theorem l_slA {lo hi : Option Int} (h : SqT K H a xs) (q : ∀ r H', Same H H' → SqT K H' r (cutV xs lo hi) → Q (.ref r) H') : rSlA K (.ref a) lo hi H Q := by
  refine ⟨a, xs, rfl, h, fun e => ?_, fun _ r nr => ?_⟩
  · exact q a H (fun _ _ h => h) (by rw [cut_whole e]; exact h)
  · exact q r _ (new_same nr) (sqT upd_same)
end
theorem celN_app (R S : List CRow) : celN (R ++ S) = celN R + celN S := by unfold celN; simp
theorem celN_set : ∀ {R : List CRow} {i : Nat} {r : CRow} (s : CRow), R[i]? = some r → celN (R.set i s) + (r.getD []).length = celN R + (s.getD []).length
  | [], i, _, _, h => by simp at h
  | x :: R, 0, r, s, h => by
    have e : x = r := by simpa using h
    subst e
    show celN (s :: R) + _ = celN (x :: R) + _
    unfold celN
    simp only [List.map_cons, List.sum_cons]
    omega
  | x :: R, i + 1, r, s, h => by
    have ih := celN_set (R := R) (i := i) s (by simpa using h)
    rw [List.set_cons_succ]
    unfold celN at *
    simp only [List.map_cons, List.sum_cons] at *
    omega
theorem celN_drop_le (R : List CRow) (i : Nat) : celN (R.drop i) ≤ celN R := by
  have e : celN (R.take i ++ R.drop i) = celN R := by rw [List.take_append_drop]
  rw [celN_app] at e
  omega
theorem RecOk.app {R S : List CRow} (a : RecOk R) (b : RecOk S) : RecOk (R ++ S) := fun r hr => by
  rcases List.mem_append.mp hr with h | h
  · exact a r h
  · exact b r h
theorem RecOk.sub {R S : List CRow} (a : RecOk R) (h : ∀ r ∈ S, r ∈ R) : RecOk S := fun r hr => a r (h r hr)
theorem RecOk.none1 : RecOk [none] := fun r hr c hc => by
  rw [List.mem_singleton.mp hr] at hc
  cases hc
theorem RecOk.set {R : List CRow} {i : Nat} {s : CRow} (a : RecOk R) (h : ∀ c ∈ s.getD [], CelOk c = true) : RecOk (R.set i s) := fun r hr c hc => by
  rcases List.mem_or_eq_of_mem_set hr with m | e
  · exact a r m c hc
  · rw [e] at hc; exact h c hc
/-- the lengths of the rows -/
def lens (R : List CRow) : List Int := R.filterMap fun r => r.map fun cs => (cs.length : Int)
theorem lens_sum (R : List CRow) : (lens R).sum = (celN R : Int) := by
  induction R with
  | nil => rfl
  | cons r R ih =>
    unfold celN at *
    cases r with
    | none => simpa [lens] using ih
    | some cs =>
      have e : lens (some cs :: R) = (cs.length : Int) :: lens R := rfl
      rw [e, List.sum_cons, ih]
      simp
def len1 : CRow → List Int
  | none => []
  | some cs => [(cs.length : Int)]
theorem lens_take {R : List CRow} {i : Nat} {r : CRow} (h : R[i]? = some r) : lens (R.take (i + 1)) = lens (R.take i) ++ len1 r := by
  rw [List.take_add_one, h]
  unfold lens
  rw [Option.toList_some, List.filterMap_append]
  cases r <;> rfl
theorem lens_len (R : List CRow) : (lens R).length ≤ R.length := List.length_filterMap_le ..
theorem recSub_okP {R : List CRow} {prs : List (Str × Str)} (o : RecOk R) (h : ∀ q ∈ prs, PyData.strOk q.2 = true) : RecOk (recSub (look prs) R) := by
  intro r hr c hc
  obtain ⟨s, hs, rfl⟩ := List.mem_map.mp hr
  cases s with
  | none => cases hc
  | some cs =>
    obtain ⟨u, hu, rfl⟩ := List.mem_map.mp hc
    have ou := o _ hs u hu
    cases u with
    | null => rfl
    | val n => exact ou
    | txt z =>
      show PyData.strOk ((look prs z).getD z) = true
      cases e : look prs z with
      | none => exact ou
      | some y => exact look_ok (p := fun y => PyData.strOk y = true) h e
/-- pairs of texts as data -/
def prD (q : Str × Str) : PyData := .tuple [.str q.1, .str q.2]
section
variable {K : PySem.W.Frag} {H : Hp} {Q : VK}
theorem PairsT.dp : ∀ {ps : List Addr} {prs : List (Str × Str)}, PairsT K H ps prs → DpAll K H (ps.map V.ref) (prs.map prD)
  | [], [], _ => .nil
  | p :: ps, q :: prs, h => by
    cases h with
    | cons a b => exact .cons (.tup a (.cons (.str _) (.cons (.str _) .nil))) (PairsT.dp b)
theorem pairs_can : ∀ {prs : List (Str × Str)}, (∀ q ∈ prs, PyData.strOk q.1 = true ∧ PyData.strOk q.2 = true) → PyData.canLayAll0 (prs.map prD) = true ∧ PyData.depthAll (prs.map prD) ≤ 1
  | [], _ => ⟨rfl, by decide⟩
  | q :: prs, h => by
    obtain ⟨a, b⟩ := pairs_can fun x m => h x (List.mem_cons_of_mem _ m)
    obtain ⟨c, d⟩ := h q List.mem_cons_self
    rw [List.map_cons]
    constructor
    · show (PyData.canLay0 (prD q) && PyData.canLayAll0 (prs.map prD)) = true
      rw [a]
      simp [prD, PyData.canLay0, PyData.canLayAll0, c, d]
    · show max (PyData.depth (prD q)) (PyData.depthAll (prs.map prD)) ≤ 1
      have : PyData.depth (prD q) ≤ 1 := by simp [prD, PyData.depth, PyData.depthAll]
      omega
theorem pairs_shaped {prs : List (Str × Str)} (h : ∀ q ∈ prs, PyData.strOk q.1 = true ∧ PyData.strOk q.2 = true) : SeqAt.shaped (.tuple (prs.map prD)) = true ∧ PyData.canLay0 (.tuple (prs.map prD)) = true := by
  obtain ⟨a, b⟩ := pairs_can h
  refine ⟨?_, a⟩
  show (PyData.canLayAll0 (prs.map prD) && decide (PyData.depthAll (prs.map prD) + 1 ≤ 64)) = true
  rw [a, decide_eq_true (by omega)]; rfl
theorem l_nePairs {p r : Addr} {ps rs : List Addr} {prs : List (Str × Str)} (h : ∀ q ∈ prs, PyData.strOk q.1 = true ∧ PyData.strOk q.2 = true) (h1 : SqT K H p (ps.map V.ref)) (a1 : PairsT K H ps prs) (h2 : SqT K H r (rs.map V.ref)) (a2 : PairsT K H rs prs) (q : Q (.bl false) H) : rNeD K (.ref p) (.ref r) H Q := by
  obtain ⟨s, c⟩ := pairs_shaped h
  exact ⟨_, _, .tup h1 a1.dp, .tup h2 a2.dp, s, s, by rw [PySem.SeqAt.eqv_refl _ c]; exact q⟩
end
theorem recT_ok {R : List CRow} (o : RecOk R) : ∀ z ∈ recT R, PyData.strOk z = true := by
  intro z hz
  obtain ⟨r, hr, h2⟩ := List.mem_flatMap.mp hz
  obtain ⟨c, hc, h3⟩ := List.mem_filterMap.mp h2
  have h := o r hr c hc
  cases c with
  | null => cases h3
  | val n => cases h3
  | txt y =>
    cases h3
    exact h
theorem zip_swp : ∀ (xs ys : List Str), ys.zip xs = swp (xs.zip ys)
  | [], [] => rfl
  | [], _ :: _ => rfl
  | _ :: _, [] => rfl
  | x :: xs, y :: ys => by
    rw [List.zip_cons_cons, List.zip_cons_cons, zip_swp xs ys]; rfl
end Tq
namespace Tq
open PySem PySem.Spec PyProof.Rows L2
/-- every cell is such -/
def AllC (P : Cel → Prop) (R : List CRow) : Prop := ∀ r ∈ R, ∀ c ∈ r.getD [], P c
section
variable {P : Cel → Prop} {R S : List CRow}
theorem AllC.app (a : AllC P R) (b : AllC P S) : AllC P (R ++ S) := fun r hr => by
  rcases List.mem_append.mp hr with h | h
  · exact a r h
  · exact b r h
theorem AllC.sub (a : AllC P R) (h : ∀ r ∈ S, r ∈ R) : AllC P S := fun r hr => a r (h r hr)
theorem AllC.none1 : AllC P [none] := fun r hr c hc => by
  rw [List.mem_singleton.mp hr] at hc
  cases hc
theorem AllC.set {i : Nat} {s : CRow} (a : AllC P R) (h : ∀ c ∈ s.getD [], P c) : AllC P (R.set i s) := fun r hr c hc => by
  rcases List.mem_or_eq_of_mem_set hr with m | e
  · exact a r m c hc
  · rw [e] at hc; exact h c hc
theorem AllC.imp {Q : Cel → Prop} (a : AllC P R) (h : ∀ c, P c → Q c) : AllC Q R := fun r hr c hc => h c (a r hr c hc)
end
/-- texts of these; values that can be laid -/
def GoodV (zs : List Str) : Cel → Prop
  | .null => True
  | .txt z => z ∈ zs
  | .val n => PyData.strOk n = true
theorem GoodR.v {zs : List Str} {R : List CRow} (h : GoodR zs R) : AllC (GoodV zs) R := fun r hr c hc => by
  have g := h r hr c hc
  cases c with
  | null => exact trivial
  | txt z => exact g
  | val n => exact four_ok n g
theorem AllC.ok {zs : List Str} {R : List CRow} (h : AllC (GoodV zs) R) (o : ∀ z ∈ zs, PyData.strOk z = true) : RecOk R := fun r hr c hc => by
  have g := h r hr c hc
  cases c with
  | null => rfl
  | txt z => exact o z g
  | val n => exact g
theorem AllC.texts {zs : List Str} {R : List CRow} (h : AllC (GoodV zs) R) : ∀ z ∈ recT R, z ∈ zs := by
  intro z hz
  obtain ⟨r, hr, h2⟩ := List.mem_flatMap.mp hz
  obtain ⟨c, hc, h3⟩ := List.mem_filterMap.mp h2
  have g := h r hr c hc
  cases c with
  | txt y => cases h3; exact g
  | _ => cases h3
theorem recSub_good {zs : List Str} {R : List CRow} {prs : List (Str × Str)} (o : AllC (GoodV zs) R) (h : ∀ q ∈ prs, q.2 ∈ zs) : AllC (GoodV zs) (recSub (look prs) R) := by
  intro r hr c hc
  obtain ⟨s, hs, rfl⟩ := List.mem_map.mp hr
  cases s with
  | none => cases hc
  | some cs =>
    obtain ⟨u, hu, rfl⟩ := List.mem_map.mp hc
    have ou := o _ hs u hu
    cases u with
    | null => exact trivial
    | val n => exact ou
    | txt z =>
      show (look prs z).getD z ∈ zs
      cases e : look prs z with
      | none => exact ou
      | some y => exact look_ok (p := fun y => y ∈ zs) h e
theorem celN_cut (R : List CRow) (k : Nat) : celN (R.take k) + celN (R.drop k) = celN R := by
  rw [← celN_app, List.take_append_drop]
theorem celN_cut1 (R : List CRow) (k : Nat) : celN (R.take k) + celN (R.drop (k + 1)) ≤ celN R := by
  have a := celN_cut R k
  have b := celN_drop_le (R.drop k) 1
  rw [List.drop_drop] at b
  omega
theorem l_eqPairs {K : PySem.W.Frag} {H : Hp} {Q : VK} {p r : Addr} {ps rs : List Addr} {prs : List (Str × Str)} (h : ∀ q ∈ prs, PyData.strOk q.1 = true ∧ PyData.strOk q.2 = true) (h1 : SqT K H p (ps.map V.ref)) (a1 : PairsT K H ps prs) (h2 : SqT K H r (rs.map V.ref)) (a2 : PairsT K H rs prs) (q : Q (.bl true) H) : rEqD K (.ref p) (.ref r) H Q := by
  obtain ⟨s, c⟩ := pairs_shaped h
  exact ⟨_, _, .tup h1 a1.dp, .tup h2 a2.dp, s, s, by rw [PySem.SeqAt.eqv_refl _ c]; exact q⟩
theorem cut_any {xs : List V} {n : Int} (h0 : 0 ≤ n) : cutV xs none (some n) = xs.take n.toNat := by
  by_cases h : n ≤ xs.length
  · exact cut_hi h0 h
  · unfold cutV
    have e1 : HT.sIx xs.length 0 none = 0 := rfl
    have e2 : HT.sIx xs.length xs.length (some n) = xs.length := by
      show (if n < 0 then (n + (xs.length : Int)).toNat else min n.toNat xs.length) = _
      rw [if_neg (by omega)]; omega
    rw [e1, e2, List.drop_zero, Nat.sub_zero, List.take_length, List.take_of_length_le (by omega)]
theorem zip_self (xs : List Str) : xs.zip xs = xs.map fun z => (z, z) := by
  induction xs with
  | nil => rfl
  | cons x r ih => rw [List.zip_cons_cons, ih]; rfl
theorem PairsT.get {K : PySem.W.Frag} {H : Hp} {ps : List Addr} {prs : List (Str × Str)} {i : Nat} (h : PairsT K H ps prs) (l : i < prs.length) : ∃ p a b, ps[i]? = some p ∧ atI (ps.map V.ref) (i : Int) = some (.ref p) ∧ prs[i]? = some (a, b) ∧ SqT K H p [V.str a, V.str b] := by
  have e := h.len
  have hp : ps[i]? = some (ps[i]'(by omega)) := List.getElem?_eq_getElem (by omega)
  obtain ⟨a, b, e1, e2⟩ := h.at hp
  exact ⟨_, a, b, hp, at_nat (by rw [List.getElem?_map, hp]; rfl), e1, e2⟩
/-- what renaming tells, by what stands in the heap -/
def Told (K : PySem.W.Frag) (fx : List Str) (R S : List CRow) (H : Hp) (y : V) : Prop :=
  (¬ canon fx R = canon fx S ∧ y = .non) ∨ (canon fx R = canon fx S ∧ ∃ (p : Addr) (ps : List Addr), y = .ref p ∧ H p = some (.tup (ps.map V.ref)) ∧ PairsT K H ps ((freeT fx R).zip (freeT fx S)))
theorem Told.same {K : PySem.W.Frag} {fx : List Str} {R S : List CRow} {H H' : Hp} {y : V} (h : Told K fx R S H y) (s : Same H H') : Told K fx R S H' y := by
  rcases h with h | ⟨e, p, ps, e2, hp, hP⟩
  · exact .inl h
  · exact .inr ⟨e, p, ps, e2, s _ _ hp, hP.keep (TK.of_same s)⟩
end Tq
open PySem PySem.Spec PyProof.Rows L2 Tq
local macro_rules | `(tactic| walk_at "look") => `(tactic| first | assumption | exact upd_same | (rw [upd_ne (by first | assumption | (apply Ne.symm; assumption))]; walk_at "look"))
local macro_rules | `(tactic| walk_at "s") => `(tactic| first
  | with_reducible refine' l_seq ?_
  | with_reducible refine' l_next ?_
  | with_reducible refine' l_asg ?_
  | with_reducible refine' l_gname ?_
  | with_reducible refine' l_gsub ?_
  | with_reducible refine' l_c ?_
  | ((with_reducible refine' l_var ?k1 ?_); (case k1 => exact rfl))
  | with_reducible refine' l_op ?_
  | with_reducible refine' l_cb ?_
  | with_reducible refine' l_nil ?_
  | with_reducible refine' l_cons ?_
  | with_reducible refine' l_call ?_
  | with_reducible refine' l_callN ?_
  | with_reducible refine' l_callD ?_
  | with_reducible refine' l_andV ?_
  | with_reducible refine' l_orT ?_
  | with_reducible refine' l_isN ?_
  | with_reducible refine' l_notN ?_
  | with_reducible refine' l_dnew ?_
  | with_reducible refine' l_orV ?_
  | with_reducible refine' l_notV ?_
  | with_reducible refine' l_jsN ?_
  | with_reducible refine' l_jsC ?_
  | with_reducible refine' l_fmtS ?_
  | with_reducible refine' l_rng2 ?_
  | with_reducible refine' l_ifs ?_
  | with_reducible refine' l_test ?_
  | with_reducible refine' l_b ?_
  | with_reducible refine' l_bl ?_
  | with_reducible refine' l_not ?_
  | with_reducible refine' l_or ?_
  | with_reducible refine' l_and ?_
  | with_reducible refine' l_ret ?_
  | with_reducible refine' l_drop ?_
  | with_reducible refine' l_lst ?_
  | with_reducible refine' l_lc ?_
  | with_reducible refine' l_for ?_
  | with_reducible refine' l_rng1 ?_
  | with_reducible refine' l_ilist ?_
  | with_reducible refine' l_itup ?_
  | with_reducible refine' l_yes ?_
  | ((with_reducible refine' And.intro (l_tyL ?k1) ?_); (case k1 => exact sqL (by walk_at "look")))
  | ((with_reducible refine' l_aug ?k1 ?_); (case k1 => exact rfl))
  | with_reducible refine' l_augS ?_
  | with_reducible refine' l_subB ?_
  | with_reducible refine' l_par ?_
  | with_reducible refine' l_intB ?_
  | ((with_reducible refine' l_mulX ?k1 ?_); (case k1 => assumption))
  | with_reducible refine' l_dc ?_
  | with_reducible refine' l_nd0 ?_
  | ((with_reducible refine' l_ixN ?k1 ?k2 ?k3 ?k4 ?_); (case k1 => exact sqL (by walk_at "look")); (case k2 => omega); (case k3 => omega); (case k4 => assumption))
  | with_reducible refine' l_enT ?_
  | with_reducible refine' l_revT ?_
  | with_reducible refine' l_isII ?_
  | with_reducible refine' l_isIB ?_
  | with_reducible refine' l_ipI ?_
  | with_reducible refine' l_ifE ?_
  | with_reducible refine' l_un ?_
  | with_reducible refine' l_neg ?_
  | with_reducible refine' l_sl0 ?_
  | with_reducible refine' l_np ?_
  | with_reducible refine' l_tup ?_
  | with_reducible refine' l_bm ?_
  | with_reducible refine' l_add ?_
  | with_reducible refine' l_sub ?_
  | with_reducible refine' l_lt ?_
  | with_reducible refine' l_le ?_
  | with_reducible refine' l_gt ?_
  | with_reducible refine' l_ge ?_
  | with_reducible refine' l_eqI ?_
  | with_reducible refine' l_neI ?_
  | with_reducible refine' l_int ?_
  | with_reducible refine' l_abs ?_
  | with_reducible refine' l_max ?_
  | with_reducible refine' l_min ?_
  | ((with_reducible refine' l_mod ?k1 ?_); (case k1 => first | decide | omega))
  | ((with_reducible refine' l_div ?k1 ?_); (case k1 => exact ⟨by omega, by omega⟩))
  | ((with_reducible refine' l_mul ?k1 ?_); (case k1 => first | assumption | exact Or.inr ⟨by decide, by decide⟩ | exact Or.inl ⟨by omega, by omega⟩))
  | ((with_reducible refine' l_pow ?k1 ?_); (case k1 => exact ⟨by decide, by decide, by decide⟩))
  | ((with_reducible refine' l_ixL ?k1 ?k2 ?_); (case k1 => exact sqL (by walk_at "look")); (case k2 => first | exact rfl | assumption))
  | ((with_reducible refine' l_setL ?k1 ?k2 ?_); (case k1 => walk_at "look"); (case k2 => first | exact rfl | assumption))
  | ((with_reducible refine' l_lenL ?k1 ?_); (case k1 => exact sqL (by walk_at "look")))
  | ((with_reducible refine' l_ixS ?k1 ?k2 ?_); (case k1 => first | assumption | decide); (case k2 => first | assumption | exact rfl))
  | ((with_reducible refine' l_mulS ?k1 ?_); (case k1 => first | assumption | exact ⟨by show 1 ≤ 1000; decide, by omega, by omega⟩))
  | ((with_reducible refine' l_addS ?k1 ?_); (case k1 => first | assumption | (first | decide | omega)))
  | ((with_reducible refine' l_isTT ?k1 ?_); (case k1 => first | assumption | exact sqT (by walk_at "look")))
  | with_reducible refine' l_isSS ?_
  | ((with_reducible refine' l_isTS ?k1 ?_); (case k1 => first | assumption | exact sqT (by walk_at "look")))
  | with_reducible refine' l_isNS ?_
  | ((with_reducible refine' l_app ?k1 ?k2 ?_); (case k1 => walk_at "look"); (case k2 => assumption))
  | ((with_reducible refine' l_ixT ?k1 ?k2 ?_); (case k1 => first | assumption | exact sqT (by walk_at "look")); (case k2 => first | assumption | exact rfl))
  | ((with_reducible refine' l_lenT ?k1 ?_); (case k1 => first | assumption | exact sqT (by walk_at "look")))
  | with_reducible refine' l_ltS ?_
  | with_reducible refine' l_leS ?_
  | with_reducible refine' l_eqS ?_
  | with_reducible refine' l_neS ?_
  | with_reducible refine' l_ifNT ?_
  | with_reducible refine' l_ifNF ?_
  | with_reducible refine' l_ifT ?_
  | with_reducible refine' l_ifF ?_)
local macro_rules | `(tactic| walk_at "go") => `(tactic| repeat walk_at "s")
namespace K06
open PySem PySem.Spec PyProof.Rows L2 Tq
def topS (i : Nat) : Stmt := PySem.Challenge.pw_migraproof_k06_whole_similar_records.main.body.getD i (.Pass ⟨0, 0, 0, 0⟩)
abbrev s_sample_texts : Stmt := topS 1
theorem sc_sample_texts : FnScope ["many", "but"] ["many", "but"] (defScope s_sample_texts) := ⟨rfl, rfl, rfl, by decide +kernel, rfl, by decide +kernel, by decide +kernel⟩
abbrev s_numbered_texts : Stmt := topS 2
theorem sc_numbered_texts : FnScope ["letter", "many", "constants", "taken", "found", "number", "text"] ["letter", "many", "constants"] (defScope s_numbered_texts) := ⟨rfl, rfl, rfl, by decide +kernel, rfl, by decide +kernel, by decide +kernel⟩
abbrev s_free_texts : Stmt := topS 4
theorem sc_free_texts : FnScope ["record", "constants", "text"] ["record", "constants"] (defScope s_free_texts) := ⟨rfl, rfl, rfl, by decide +kernel, rfl, by decide +kernel, by decide +kernel⟩
abbrev s_renamed : Stmt := topS 5
theorem sc_renamed : FnScope ["record", "pairs"] ["record", "pairs"] (defScope s_renamed) := ⟨rfl, rfl, rfl, by decide +kernel, rfl, by decide +kernel, by decide +kernel⟩
abbrev s_canonical : Stmt := topS 6
theorem sc_canonical : FnScope ["record", "constants", "texts", "samples"] ["record", "constants"] (defScope s_canonical) := ⟨rfl, rfl, rfl, by decide +kernel, rfl, by decide +kernel, by decide +kernel⟩
abbrev s_renamingQ : Stmt := topS 7
theorem sc_renamingQ : FnScope ["first", "second", "constants"] ["first", "second", "constants"] (defScope s_renamingQ) := ⟨rfl, rfl, rfl, by decide +kernel, rfl, by decide +kernel, by decide +kernel⟩
abbrev s_texts_beside : Stmt := topS 8
theorem sc_texts_beside : FnScope ["record", "fixed", "found", "row", "cell"] ["record", "fixed"] (defScope s_texts_beside) := ⟨rfl, rfl, rfl, by decide +kernel, rfl, by decide +kernel, by decide +kernel⟩
abbrev s_record_with_new_texts : Stmt := topS 9
theorem sc_record_with_new_texts : FnScope ["record", "news", "row"] ["record", "news"] (defScope s_record_with_new_texts) := ⟨rfl, rfl, rfl, by decide +kernel, rfl, by decide +kernel, by decide +kernel⟩
abbrev s_row_with_new_texts : Stmt := topS 10
theorem sc_row_with_new_texts : FnScope ["row", "news", "cell"] ["row", "news"] (defScope s_row_with_new_texts) := ⟨rfl, rfl, rfl, by decide +kernel, rfl, by decide +kernel, by decide +kernel⟩
abbrev s_law_tape : Stmt := topS 12
theorem sc_law_tape : FnScope ["script", "total", "cell"] ["script"] (defScope s_law_tape) := ⟨rfl, rfl, rfl, by decide +kernel, rfl, by decide +kernel, by decide +kernel⟩
abbrev s_law_draw : Stmt := topS 13
theorem sc_law_draw : FnScope ["tape", "many", "place", "number"] ["tape", "many"] (defScope s_law_draw) := ⟨rfl, rfl, rfl, by decide +kernel, rfl, by decide +kernel, by decide +kernel⟩
abbrev s_law_text : Stmt := topS 14
theorem sc_law_text : FnScope ["tape", "marks", "choice", "number", "length", "place", "first"] ["tape"] (defScope s_law_text) := ⟨rfl, rfl, rfl, by decide +kernel, rfl, by decide +kernel, by decide +kernel⟩
abbrev s_law_texts : Stmt := topS 15
theorem sc_law_texts : FnScope ["tape", "many", "taken", "texts", "k", "text", "j"] ["tape", "many", "taken"] (defScope s_law_texts) := ⟨rfl, rfl, rfl, by decide +kernel, rfl, by decide +kernel, by decide +kernel⟩
abbrev s_law_shuffled : Stmt := topS 16
theorem sc_law_shuffled : FnScope ["tape", "rows", "left", "found", "k"] ["tape", "rows"] (defScope s_law_shuffled) := ⟨rfl, rfl, rfl, by decide +kernel, rfl, by decide +kernel, by decide +kernel⟩
abbrev s_law_cells : Stmt := topS 17
theorem sc_law_cells : FnScope ["record", "found", "row", "cell"] ["record"] (defScope s_law_cells) := ⟨rfl, rfl, rfl, by decide +kernel, rfl, by decide +kernel, by decide +kernel⟩
abbrev s_law_free : Stmt := topS 18
theorem sc_law_free : FnScope ["record", "constants", "found", "text"] ["record", "constants"] (defScope s_law_free) := ⟨rfl, rfl, rfl, by decide +kernel, rfl, by decide +kernel, by decide +kernel⟩
abbrev s_law_samples : Stmt := topS 19
theorem sc_law_samples : FnScope ["constants", "many", "found", "k", "text"] ["constants", "many"] (defScope s_law_samples) := ⟨rfl, rfl, rfl, by decide +kernel, rfl, by decide +kernel, by decide +kernel⟩
abbrev s_law_renamed : Stmt := topS 20
theorem sc_law_renamed : FnScope ["record", "changes", "rows", "row", "cells", "cell"] ["record", "changes"] (defScope s_law_renamed) := ⟨rfl, rfl, rfl, by decide +kernel, rfl, by decide +kernel, by decide +kernel⟩
abbrev s_law_paired : Stmt := topS 21
theorem sc_law_paired : FnScope ["first", "second", "changes", "k"] ["first", "second"] (defScope s_law_paired) := ⟨rfl, rfl, rfl, by decide +kernel, rfl, by decide +kernel, by decide +kernel⟩
abbrev s_law_known : Stmt := topS 22
theorem sc_law_known : FnScope ["tape", "most", "found", "k", "number", "text"] ["tape", "most"] (defScope s_law_known) := ⟨rfl, rfl, rfl, by decide +kernel, rfl, by decide +kernel, by decide +kernel⟩
abbrev s_law_wild : Stmt := topS 23
theorem sc_law_wild : FnScope ["tape", "texts", "shape", "sizes", "k", "rows", "many", "cells", "number", "cell"] ["tape", "texts"] (defScope s_law_wild) := ⟨rfl, rfl, rfl, by decide +kernel, rfl, by decide +kernel, by decide +kernel⟩
abbrev s_law_touched : Stmt := topS 24
theorem sc_law_touched : FnScope ["tape", "record", "cells", "rows", "place", "cell", "row"] ["tape", "record", "cells"] (defScope s_law_touched) := ⟨rfl, rfl, rfl, by decide +kernel, rfl, by decide +kernel, by decide +kernel⟩
abbrev s_law_near : Stmt := topS 25
theorem sc_law_near : FnScope ["tape", "record", "texts", "constants", "choice", "free", "others", "text", "chosen", "changes", "near", "place"] ["tape", "record", "texts", "constants"] (defScope s_law_near) := ⟨rfl, rfl, rfl, by decide +kernel, rfl, by decide +kernel, by decide +kernel⟩
abbrev s_law_matching : Stmt := topS 26
theorem sc_law_matching : FnScope ["first", "second", "constants", "there", "back", "k", "j", "old", "new", "both"] ["first", "second", "constants"] (defScope s_law_matching) := ⟨rfl, rfl, rfl, by decide +kernel, rfl, by decide +kernel, by decide +kernel⟩
abbrev s_law_both : Stmt := topS 27
theorem sc_law_both : FnScope ["first", "second", "constants", "due", "told", "same"] ["first", "second", "constants"] (defScope s_law_both) := ⟨rfl, rfl, rfl, by decide +kernel, rfl, by decide +kernel, by decide +kernel⟩
abbrev s_law : Stmt := topS 28
theorem sc_law : FnScope ["script", "tape", "constants", "others", "first", "second", "third", "before", "after", "joined", "k", "free", "text", "samples", "due"] ["script"] (defScope s_law) := ⟨rfl, rfl, rfl, by decide +kernel, rfl, by decide +kernel, by decide +kernel⟩
structure Txt (mg : Str → Option Value) : Prop where
  b_abs : mg "abs" = none
  b_dict : mg "dict" = none
  b_int : mg "int" = none
  b_isinstance : mg "isinstance" = none
  b_len : mg "len" = none
  b_list : mg "list" = none
  b_max : mg "max" = none
  b_range : mg "range" = none
  b_set : mg "set" = none
  b_sorted : mg "sorted" = none
  b_str : mg "str" = none
  b_sum : mg "sum" = none
  b_tuple : mg "tuple" = none
  b_zip : mg "zip" = none
structure Ds (K : PySem.W.Frag) (mg : Str → Option Value) where
  sample_texts : Dk K mg "sample_texts" s_sample_texts "many" "but"
  numbered_texts : Df K mg "numbered_texts" s_numbered_texts ["letter", "many", "constants"]
  free_texts : Df K mg "free_texts" s_free_texts ["record", "constants"]
  renamed : Df K mg "renamed" s_renamed ["record", "pairs"]
  canonical : Df K mg "canonical" s_canonical ["record", "constants"]
  renamingQ : Df K mg "renaming" s_renamingQ ["first", "second", "constants"]
  texts_beside : Df K mg "texts_beside" s_texts_beside ["record", "fixed"]
  record_with_new_texts : Df K mg "record_with_new_texts" s_record_with_new_texts ["record", "news"]
  row_with_new_texts : Df K mg "row_with_new_texts" s_row_with_new_texts ["row", "news"]
  law_tape : Df K mg "_law_tape" s_law_tape ["script"]
  law_draw : Df K mg "_law_draw" s_law_draw ["tape", "many"]
  law_text : Df K mg "_law_text" s_law_text ["tape"]
  law_texts : Df K mg "_law_texts" s_law_texts ["tape", "many", "taken"]
  law_shuffled : Df K mg "_law_shuffled" s_law_shuffled ["tape", "rows"]
  law_cells : Df K mg "_law_cells" s_law_cells ["record"]
  law_free : Df K mg "_law_free" s_law_free ["record", "constants"]
  law_samples : Df K mg "_law_samples" s_law_samples ["constants", "many"]
  law_renamed : Df K mg "_law_renamed" s_law_renamed ["record", "changes"]
  law_paired : Df K mg "_law_paired" s_law_paired ["first", "second"]
  law_known : Df K mg "_law_known" s_law_known ["tape", "most"]
  law_wild : Df K mg "_law_wild" s_law_wild ["tape", "texts"]
  law_touched : Df K mg "_law_touched" s_law_touched ["tape", "record", "cells"]
  law_near : Df K mg "_law_near" s_law_near ["tape", "record", "texts", "constants"]
  law_matching : Df K mg "_law_matching" s_law_matching ["first", "second", "constants"]
  law_both : Df K mg "_law_both" s_law_both ["first", "second", "constants"]
  law : Df K mg "law" s_law ["script"]
end K06
namespace K06
open PySem PySem.Spec PyProof.Rows L2 Tq
section
variable {P : Program} {w : World} {K : PySem.W.Frag} {mg : Str → Option Value} {base : Heap}
def spNum (K : PySem.W.Frag) : Sp := fun vs H Q _ => ∃ (z : Str) (n : Int) (p0 : Addr) (xs : List Str), vs = [.str z, .int n, .ref p0] ∧ z.length ≤ 12 ∧ 0 ≤ n ∧ n ≤ 1000 ∧ SqT K H p0 (xs.map V.str) ∧ xs.length ≤ 1000 ∧
  ∀ (p : Addr) (H' : Hp), Same H H' → H p = none → H' p = some (.tup ((firstN z n.toNat xs).map V.str)) → Q (.ref p) H'
def spFirst (K : PySem.W.Frag) (z : Str) : Sp := fun vs H Q _ => ∃ (n : Int) (p0 : Addr) (xs : List Str), vs = [.int n, .ref p0] ∧ 0 ≤ n ∧ n ≤ 1000 ∧ SqT K H p0 (xs.map V.str) ∧ xs.length ≤ 1000 ∧
  ∀ (p : Addr) (H' : Hp), Same H H' → H p = none → H' p = some (.tup ((firstN z n.toNat xs).map V.str)) → Q (.ref p) H'

theorem ok_numbered_texts (D : Ds K mg) (T : Txt mg) : FnOk P w K mg base CX0 1 D.numbered_texts.f D.numbered_texts.fd ["letter", "many", "constants"] (spNum K) := by
  have sc := sc_numbered_texts
  refine D.numbered_texts.F.ok sc (fun vs H Q E h => ?_) (fun cdv A outer s H vs Q E hr h => ?_)
  · obtain ⟨z, n, p0, xs, rfl, _⟩ := h
    rfl
  · obtain ⟨z, n, p0, xs, rfl, z12, n0, n1, hS, xl, q⟩ := h
    refine ⟨_, (pss_cons (ps_set (i := 3) sc.nd rfl (Or.inl rfl) (pe_callTy (k_set (K := K) (w := w) rfl rfl rfl) (by rfl) T.b_set (by decide +kernel) (pa_cons (pv 2) pa_nil)))
    (pss_cons (ps_set (i := 4) sc.nd rfl (Or.inl rfl) (pe_lst pa_nil))
    (pss_cons (ps_set (i := 5) sc.nd rfl (Or.inl rfl) pe_int)
    (pss_cons (ps_while PassesOwn.never (pt_cmpR o_lt (pe_callB (k_len (K := K) rfl) (by rfl) T.b_len PySem.boot_len (pa_cons (pv 4) pa_nil)) (pv 1) (nomark _)) (pss_cons (ps_set (i := 6) sc.nd rfl (Or.inl rfl) (pe_joined (PJ.cons (pe_fmt (pv 0)) (PJ.cons (pe_fmt (pv 5)) PJ.nil))))
    (pss_cons (ps_if (pt_cmpR (k_notInT (w := w) rfl) (pv 6) (pv 3) (by rfl)) (pss_one (ps_expr (pe_bm PySem.F.plainAttrs_list PySem.F.slot_list_append PySem.F.type_list_append mt_append (pv 4) (pa_cons (pv 6) pa_nil)))) pss_nil)
    (pss_one (ps_aug (i := 5) sc.nd rfl (Or.inl rfl) pe_int ip_add)))))
    (pss_one (ps_ret (pe_callTy (k_tuple (K := K) rfl) (by rfl) T.b_tuple (by decide +kernel) (pa_cons (pv 4) pa_nil)))))))), ?_⟩
    walk_at "go"
    have sb : (1000 : Nat) + 1 < scanBound := by decide
    refine ⟨p0, xs, rfl, hS, by omega, fun c nc => ?_⟩
    walk_at "go"
    refine ⟨Nat.zero_le _, fun d nd => ?_⟩
    walk_at "go"
    have s1 := new_same (o := TSO w c (once xs)) nc
    have cd : c ≠ d := fun e => by
      rw [← e, upd_same] at nd
      cases nd
    refine l_while (fun m σ H' => ∃ (k : Nat) (y : Option V), σ = [some (.str z), some (.int n), some (.ref p0), some (.ref c), some (.ref d), some (.int ((k : Int) + 1)), y] ∧ m + k = n.toNat + xs.length + 1 ∧ (named z xs k).length ≤ n.toNat ∧
      Same H H' ∧ H' c = some (TSO w c (once xs)) ∧ H' d = some (.lst ((named z xs k).map V.str))) (n.toNat + xs.length + 1) ⟨0, none, rfl, rfl, Nat.zero_le _, s1.trans (new_same nd), by rw [upd_ne cd]; exact upd_same, upd_same⟩ ?_
    rintro m σ H' ⟨k, y, rfl, em, kl, sm, hc, hd⟩
    have nl := named_len z xs k
    walk_at "go"
    refine l_if (fun c1 => ?_) (fun c1 => ?_)
    · rw [List.length_map] at c1
      have mp : 0 < m := by omega
      refine ⟨fun σ' H' => ∃ m', m' < m ∧ _, fun _ _ h => h, ?_⟩
      walk_at "go"
      have z0 : (Str.empty ++ z).length ≤ sizeLine := by rw [empty_app]; exact fits (by omega)
      refine .inl ⟨z, rfl, fits (by omega), z, rfl, z0, ?_⟩
      walk_at "go"
      have k1 : ((k : Int) + 1) = ((k + 1 : Nat) : Int) := by omega
      have e1 : Str.empty ++ z ++ Str.ofString (toString ((k : Int) + 1)) = nm z (k + 1) := by
        rw [empty_app, k1]; rfl
      refine .inr ⟨(k : Int) + 1, rfl, log_small (by omega) (by omega), _, rfl, ?_, ?_⟩
      · rw [e1]
        have := nm_len (z := z) (show k + 1 < 100000 by omega)
        exact fits (by omega)
      rw [e1]
      walk_at "go"
      refine ⟨nm z (k + 1), c, once xs, rfl, rfl, hc, ?_⟩
      walk_at "go"
      have mem : nm z (k + 1) ∈ once xs ↔ nm z (k + 1) ∈ xs := once_mem xs _
      refine l_ifN (fun c2 => ?_) (fun c2 => ?_)
      · have nx : nm z (k + 1) ∉ xs := fun h => c2 (mem.mpr h)
        have e2 : named z xs (k + 1) = named z xs k ++ [nm z (k + 1)] := by rw [named_succ, if_neg nx]
        have room : ((named z xs k).map V.str).length < sizeLine := by
          rw [List.length_map]; exact fits_lt (by omega)
        walk_at "go"
        refine ⟨m - 1, by omega, k + 1, _, by rw [k1]; rfl, by omega, by rw [e2, List.length_append, List.length_singleton]; omega, ?_, by rw [upd_ne cd]; exact hc, by rw [upd_same, e2, List.map_append]; rfl⟩
        intro b o hb
        rw [upd_ne (ne_of_none (s1 _ _ hb) nd)]
        exact sm b o hb
      · have mx : nm z (k + 1) ∈ xs := mem.mp c2
        have e2 : named z xs (k + 1) = named z xs k := by rw [named_succ, if_pos mx, List.append_nil]
        walk_at "go"
        exact ⟨m - 1, by omega, k + 1, _, by rw [k1]; rfl, by omega, by rw [e2]; omega, sm, hc, by rw [e2]; exact hd⟩
    · rw [List.length_map] at c1
      walk_at "go"
      refine l_tupL (sqL hd) fun p np => ?_
      show Q _ _
      have e3 := firstN_of (z := z) (m := n.toNat) (n := k) (xs := xs) (by omega)
      exact q p _ (sm.trans (new_same np)) (sm.free np) (by rw [upd_same, e3])
end
end K06
namespace K06
open PySem PySem.Spec PyProof.Rows L2 Tq
section
variable {P : Program} {w : World} {K : PySem.W.Frag} {mg : Str → Option Value} {base : Heap}

theorem ok_sample_texts (D : Ds K mg) (T : Txt mg) : FnOk P w K mg base CX0 2 D.sample_texts.f D.sample_texts.fd ["many", "but"] (spFirst K "v") := by
  have sc := sc_sample_texts
  refine D.sample_texts.F.ok sc (fun vs H Q E h => ?_) (fun cdv A outer s H vs Q E hr h => ?_)
  · obtain ⟨n, p0, xs, rfl, _⟩ := h
    rfl
  · obtain ⟨n, p0, xs, rfl, n0, n1, hS, xl, q⟩ := h
    refine ⟨_, PSs.nox (pss_one (ps_ret (pe_call (ok_numbered_texts D T) hr (by rfl) D.numbered_texts.g D.numbered_texts.F.kp D.numbered_texts.b .nil pass0 (pa_cons pe_str (pa_cons (pv 0) (pa_cons (pv 1) pa_nil)))))), ?_⟩
    walk_at "go"
    exact ⟨"v", n, p0, xs, rfl, by decide, n0, n1, hS, xl, q⟩
end
end K06
namespace K06
open PySem PySem.Spec PyProof.Rows L2 Tq
section
variable {P : Program} {w : World} {K : PySem.W.Frag} {mg : Str → Option Value} {base : Heap}
def spBes (K : PySem.W.Frag) : Sp := fun vs H Q _ => ∃ (v0 : V) (R : List CRow) (c : Addr) (fx : List Str), vs = [v0, .ref c] ∧ Dp K H v0 (recD R) ∧ celN R ≤ 900 ∧ H c = some (.dK (keysT fx)) ∧
  ∀ (p : Addr) (H' : Hp), Same H H' → H p = none → H' p = some (.lst ((freeT fx R).map V.str)) → Q (.ref p) H'

theorem ok_texts_beside (D : Ds K mg) (T : Txt mg) : FnOk P w K mg base CX0 1 D.texts_beside.f D.texts_beside.fd ["record", "fixed"] (spBes K) := by
  have sc := sc_texts_beside
  refine D.texts_beside.F.ok sc (fun vs H Q E h => ?_) (fun cdv A outer s H vs Q E hr h => ?_)
  · obtain ⟨v0, R, c, fx, rfl, _⟩ := h
    rfl
  · obtain ⟨v0, R, c, fx, rfl, hR, rl, hc0, q⟩ := h
    refine ⟨_, (pss_cons (ps_set (i := 2) sc.nd rfl (Or.inl rfl) pe_dnewK)
    (pss_cons (ps_for PassesOwn.never rfl (k_piT (K := K) rfl (pv 0)) (pg_name (i := 3) sc.nd rfl (Or.inl rfl)) (pss_one (ps_for PassesOwn.never rfl (k_piT (K := K) rfl (k_orT (K := K) rfl (pv 3) (pe_one (pe_tup pa_nil)))) (pg_name (i := 4) sc.nd rfl (Or.inl rfl)) (pss_one (ps_if (PW.pt (pw_and (pt_val (pe_callB (k_isi (K := K) rfl) (by rfl) T.b_isinstance (by decide +kernel) (pa_cons (pv 4) (pa_cons (pe_bltn (v := .ty "str") (by rfl) T.b_str (by decide +kernel) rfl) pa_nil)))) (pw_and1 (pt_cmp (pc_dnotin (hu_of hr) (pv 4) (pv 1)) (by rfl))))) (pss_one (ps_asg pe_bl (pg_sub (pv 2) (pv 4) (set_dict (hu_of hr))))) pss_nil)))))
    (pss_one (ps_ret (pe_callTy (c_listD rfl) (by rfl) T.b_list (by decide +kernel) (pa_cons (pv 2) pa_nil)))))), ?_⟩
    obtain ⟨p, xs, rfl, hS, hA⟩ := dp_tup hR
    walk_at "go"
    intro d nd
    walk_at "go"
    have s2 := new_same (o := .dK []) nd
    have cd : c ≠ d := ne_of_none hc0 nd
    have el : xs.length = R.length := by rw [hA.len, List.length_map]
    have fr : ∀ b o, H b = some o → b ≠ d := fun b o h => ne_of_none h nd
    refine ⟨p, rfl, ⟨xs, s2.seqT hS⟩, for_tup (xs := xs) (fun i σ H' => ∃ (y1 y2 : Option V) (acc : List Str), σ = [some (.ref p), some (.ref c), some (.ref d), y1, y2] ∧ acc = (R.take i).foldl (rowF fx) [] ∧ H' d = some (.dK (keysT acc)) ∧ H' c = some (HO.dK (keysT fx)) ∧ Same H H')
      ⟨none, none, [], rfl, rfl, upd_same, by rw [upd_ne cd]; exact hc0, s2⟩ ?_ ?_ ?_⟩
    · rintro i σ H1 _ ⟨y1, y2, acc, rfl, _, _, _, S1⟩
      exact S1.seqT hS
    · rintro i x σ H1 hx ⟨y1, y2, acc, rfl, ea, hd, hc, S1⟩
      obtain ⟨dr, hdr, hrow⟩ := hA.at hx
      rw [List.getElem?_map] at hdr
      obtain ⟨r, hr0, rfl⟩ := Option.map_eq_some_iff.mp hdr
      have tk : (R.take (i + 1)).foldl (rowF fx) [] = rowF fx acc r := by
        rw [List.take_add_one, hr0, List.foldl_append, ← ea]; rfl
      have al : acc.length ≤ celN (R.take i) := by
        rw [ea]
        exact freeT_len fx (R.take i)
      have hrow1 := Dp.keep (TK.of_same S1) _ _ (row_pu r) hrow
      walk_at "go"
      cases r with
      | none =>
        rw [dp_none hrow1]
        refine ⟨false, rfl, ?_⟩
        refine l_ifF ?_
        walk_at "go"
        refine ⟨Nat.zero_le _, fun g ng => ?_⟩
        refine ⟨g, rfl, ⟨[], sqT upd_same⟩, for_tup (xs := []) (fun j σ H' => ∃ (y1 y2 : Option V), σ = [some (.ref p), some (.ref c), some (.ref d), y1, y2] ∧ H' = L2.upd H1 g (.tup [])) ⟨_, _, rfl, rfl⟩ ?_ ?_ ?_⟩
        · rintro j σ H' _ ⟨_, _, _, rfl⟩
          exact sqT upd_same
        · intro j y σ H' h
          simp at h
        · rintro σ H' ⟨y1, y2, rfl, rfl⟩
          show ∃ _, _
          exact ⟨_, _, acc, rfl, by rw [tk]; rfl, by rw [upd_ne (ne_of_none hd ng)]; exact hd, by rw [upd_ne (ne_of_none hc ng)]; exact hc, S1.trans (new_same ng)⟩
      | some cs =>
        obtain ⟨p2, ys, rfl, hS2, hA2⟩ := dp_tup hrow1
        have el2 : ys.length = cs.length := by rw [hA2.len, List.length_map]
        have rr := celN_row hr0
        refine ⟨_, .inr (.inl ⟨ys, hS2, rfl⟩), ?_⟩
        refine l_if2 (fun c1 => ?_) (fun c1 => ?_)
        · refine ⟨p2, rfl, ⟨ys, hS2⟩, for_tup (xs := ys) (fun j σ H' => ∃ (y1 y2 : Option V) (acc2 : List Str), σ = [some (.ref p), some (.ref c), some (.ref d), y1, y2] ∧ acc2 = (cs.take j).foldl (fstep fx) acc ∧ H' = L2.upd H1 d (.dK (keysT acc2))) ⟨_, _, acc, rfl, rfl, ?_⟩ ?_ ?_ ?_⟩
          · funext b
            unfold L2.upd
            split
            · rename_i h; rw [h]; exact hd
            · rfl
          · rintro j σ H' _ ⟨y1, y2, acc2, rfl, _, rfl⟩
            exact (TK.putD hd).sq hS2
          · rintro j y σ H' hy ⟨y1, y2, acc2, rfl, ea2, rfl⟩
            obtain ⟨dc, hdc, hcl⟩ := hA2.at hy
            rw [List.getElem?_map] at hdc
            obtain ⟨cl, hc0, rfl⟩ := Option.map_eq_some_iff.mp hdc
            have hcl1 := Dp.keep (TK.putD (o := .dK (keysT acc2)) hd) _ _ (cel_pu cl) hcl
            have tk2 : (cs.take (j + 1)).foldl (fstep fx) acc = fstep fx acc2 cl := by
              rw [List.take_add_one, hc0, List.foldl_append, ← ea2]; rfl
            have a2 : acc2.length ≤ 1000 := by
              rw [ea2]
              have := ffold_len (fx := fx) (cs.take j) acc
              rw [List.length_take] at this
              omega
            have hcd : (L2.upd H1 d (.dK (keysT acc2))) c = some (HO.dK (keysT fx)) := by rw [upd_ne cd]; exact hc
            walk_at "go"
            refine l_isCel hcl1 ?_
            walk_at "go"
            cases cl with
            | null =>
              refine l_ifF ?_
              refine l_ifF ?_
              walk_at "go"
              exact ⟨_, _, acc2, rfl, by rw [tk2]; rfl, rfl⟩
            | val n =>
              refine l_ifF ?_
              refine l_ifF ?_
              walk_at "go"
              exact ⟨_, _, acc2, rfl, by rw [tk2]; rfl, rfl⟩
            | txt z =>
              rw [dp_str hcl1]
              refine l_ifT ?_
              walk_at "go"
              refine ⟨c, _, rfl, DGet.k (k := Sum.inr z) hcd, ?_⟩
              rw [val_keys]
              by_cases c2 : z ∉ fx
              · rw [if_neg c2]
                refine ⟨true, rfl, l_ifT ?_⟩
                walk_at "go"
                refine l_setD (ks := acc2) (z := z) upd_same (fits_lt (by omega)) ?_
                show ∃ _, _
                refine ⟨_, _, step1 acc2 z, rfl, ?_, by rw [upd_upd]⟩
                rw [tk2]
                show step1 acc2 z = tstep fx acc2 z
                unfold tstep; rw [if_neg (fun h => c2 (h))]
              · have c2 : z ∈ fx := Classical.not_not.mp c2
                rw [if_pos c2]
                refine ⟨false, rfl, l_ifF ?_⟩
                walk_at "go"
                refine ⟨_, _, acc2, rfl, ?_, rfl⟩
                rw [tk2]
                show acc2 = tstep fx acc2 z
                unfold tstep; rw [if_pos (c2)]
          · rintro σ H' ⟨y1, y2, acc2, rfl, ea2, rfl⟩
            rw [el2, List.take_length] at ea2
            show ∃ _, _
            refine ⟨_, _, acc2, rfl, by rw [tk, ea2]; rfl, upd_same, by rw [upd_ne cd]; exact hc, ?_⟩
            intro b o hb
            rw [upd_ne (fr b o hb)]
            exact S1 b o hb
        · have e0 : cs = [] := by
            have : ys = [] := by simpa using c1
            rw [this] at el2
            exact List.eq_nil_of_length_eq_zero el2.symm
          subst e0
          walk_at "go"
          refine ⟨Nat.zero_le _, fun g ng => ?_⟩
          refine ⟨g, rfl, ⟨[], sqT upd_same⟩, for_tup (xs := []) (fun j σ H' => ∃ (y1 y2 : Option V), σ = [some (.ref p), some (.ref c), some (.ref d), y1, y2] ∧ H' = L2.upd H1 g (.tup [])) ⟨_, _, rfl, rfl⟩ ?_ ?_ ?_⟩
          · rintro j σ H' _ ⟨_, _, _, rfl⟩
            exact sqT upd_same
          · intro j y σ H' h
            simp at h
          · rintro σ H' ⟨y1, y2, rfl, rfl⟩
            show ∃ _, _
            exact ⟨_, _, acc, rfl, by rw [tk]; rfl, by rw [upd_ne (ne_of_none hd ng)]; exact hd, by rw [upd_ne (ne_of_none hc ng)]; exact hc, S1.trans (new_same ng)⟩
    · rintro σ H1 ⟨y1, y2, acc, rfl, ea, hd, hc, S1⟩
      rw [el, List.take_length] at ea
      walk_at "go"
      refine l_listD hd fun r nr => ?_
      rw [keysT_keys]
      show Q _ _
      exact q r _ (S1.trans (new_same nr)) (S1.free nr) (by rw [upd_same, ea]; rfl)
end
end K06
namespace K06
open PySem PySem.Spec PyProof.Rows L2 Tq
section
variable {P : Program} {w : World} {K : PySem.W.Frag} {mg : Str → Option Value} {base : Heap}
def spFree (K : PySem.W.Frag) : Sp := fun vs H Q _ => ∃ (v0 : V) (R : List CRow) (p0 : Addr) (fx : List Str), vs = [v0, .ref p0] ∧ Dp K H v0 (recD R) ∧ celN R ≤ 900 ∧ SqT K H p0 (fx.map V.str) ∧ fx.length ≤ 900 ∧
  ∀ (p : Addr) (H' : Hp), Same H H' → H p = none → H' p = some (.tup ((freeT fx R).map V.str)) → Q (.ref p) H'

theorem ok_free_texts (D : Ds K mg) (T : Txt mg) : FnOk P w K mg base CX0 2 D.free_texts.f D.free_texts.fd ["record", "constants"] (spFree K) := by
  have sc := sc_free_texts
  refine D.free_texts.F.ok sc (fun vs H Q E h => ?_) (fun cdv A outer s H vs Q E hr h => ?_)
  · obtain ⟨v0, R, p0, fx, rfl, _⟩ := h
    rfl
  · obtain ⟨v0, R, p0, fx, rfl, hR, rl, hq, fl, q⟩ := h
    refine ⟨_, (pss_one (ps_ret (pe_callTy (k_tuple (K := K) rfl) (by rfl) T.b_tuple (by decide +kernel) (pa_cons (pe_call (ok_texts_beside D T) hr (by rfl) D.texts_beside.g D.texts_beside.F.kp D.texts_beside.b .nil pass0 (pa_cons (pv 0) (pa_cons (pe_dc (own := [("text", 2)]) rfl sc.nd (k_piT (K := K) rfl (pv 1)) (blkOk_by (N := ["record", "constants", "text"]) (sc := defScope s_free_texts) (by decide +kernel)) (fun _ _ _ _ _ => (pg_name (i := 2) sc.nd rfl (Or.inl rfl))) (fun _ _ _ _ _ => pts_nil) (fun _ _ _ _ _ => (pv 2)) (fun _ _ _ _ _ => pe_bl)) pa_nil))) pa_nil)))), ?_⟩
    walk_at "go"
    refine ⟨p0, rfl, ⟨_, hq⟩, fun c nc => dc_tup (xs := fx.map V.str) (fun i H' => Same H H' ∧ H' c = some (.dK (keysT (once (fx.take i))))) ⟨new_same nc, by rw [upd_same]; rfl⟩ ?_ ?_ ?_⟩
    · rintro i H' _ ⟨sm, _⟩
      exact sm.seqT hq
    · rintro i x H' hx ⟨sm, hc⟩
      rw [List.getElem?_map] at hx
      obtain ⟨z, hz, rfl⟩ := Option.map_eq_some_iff.mp hx
      walk_at "go"
      refine ⟨rfl, ?_⟩
      walk_at "go"
      have ol := once_len (fx.take i)
      rw [List.length_take] at ol
      refine ⟨_, Sum.inr z, rfl, hc, fits_lt (by unfold keysT; rw [List.length_map]; omega), ?_, ?_⟩
      · intro b o hb
        rw [upd_ne (ne_of_none hb nc)]
        exact sm _ _ hb
      · rw [upd_same, keysT_put, once_take hz]
    rintro H1 ⟨S1, hc⟩
    rw [List.length_map, List.take_length] at hc
    walk_at "go"
    refine ⟨v0, R, c, once fx, rfl, Dp.keep (TK.of_same S1) _ _ (rec_pu R) hR, rl, hc, fun e H2 S2 n2 h2 => ?_⟩
    walk_at "go"
    refine l_tupL (sqL h2) fun r nr => ?_
    show Q _ _
    have S12 := S1.trans S2
    refine q r _ (S12.trans (new_same nr)) (S12.free nr) ?_
    rw [upd_same, freeT_same (once_mem fx)]
end
end K06
namespace K06
open PySem PySem.Spec PyProof.Rows L2 Tq
section
variable {P : Program} {w : World} {K : PySem.W.Frag} {mg : Str → Option Value} {base : Heap}
def spRow (K : PySem.W.Frag) : Sp := fun vs H Q _ => ∃ (v0 : V) (r : CRow) (d : Addr) (prs : List (Str × Str)), vs = [v0, .ref d] ∧ Dp K H v0 (rowD r) ∧ H d = some (.dK (dicT prs)) ∧ (r.getD []).length ≤ 1000 ∧
  ∀ (v : V) (H' : Hp), Same H H' → Dp K H' v (rowD (rowSub (look prs) r)) → Q v H'

theorem ok_row_with_new_texts (D : Ds K mg) (T : Txt mg) : FnOk P w K mg base CX0 1 D.row_with_new_texts.f D.row_with_new_texts.fd ["row", "news"] (spRow K) := by
  have sc := sc_row_with_new_texts
  refine D.row_with_new_texts.F.ok sc (fun vs H Q E h => ?_) (fun cdv A outer s H vs Q E hr h => ?_)
  · obtain ⟨v0, r, d, prs, rfl, _⟩ := h
    rfl
  · obtain ⟨v0, r, d, prs, rfl, hR, hd, rl, q⟩ := h
    refine ⟨_, (pss_cons (ps_if (pt_cmpR o_isN (pv 0) pe_non (nomark _)) (pss_one (ps_ret pe_non)) pss_nil)
    (pss_one (ps_ret (pe_callTy (k_tuple (K := K) rfl) (by rfl) T.b_tuple (by decide +kernel) (pa_cons (pe_lc (own := [("cell", 2)]) rfl sc.nd (k_piT (K := K) rfl (pv 0)) (blkOk_by (N := ["row", "news", "cell"]) (sc := defScope s_row_with_new_texts) (by decide +kernel)) (fun _ _ _ _ _ => (pg_name (i := 2) sc.nd rfl (Or.inl rfl))) (fun _ _ _ _ _ => pts_nil) (fun _ _ _ _ _ => (k_getC (K := K) rfl (hu_of hr) (pv 1) (pv 2) (pv 2) ⟨by rfl, by rfl, by rfl, by rfl⟩))) pa_nil))))), ?_⟩
    walk_at "go"
    cases r with
    | none =>
      rw [dp_none hR, decide_eq_true rfl]
      walk_at "go"
      exact q _ _ (fun _ _ h => h) .non
    | some cs =>
      obtain ⟨p, xs, rfl, hS, hA⟩ := dp_tup hR
      have el : xs.length = cs.length := by rw [hA.len, List.length_map]
      have cl : cs.length ≤ 1000 := rl
      rw [decide_eq_false (fun h => nomatch h)]
      walk_at "go"
      refine ⟨p, rfl, ⟨xs, hS⟩, fun g ng => lc_tup (xs := xs) (fun j H' => ∃ us, H' = L2.upd H g (.lst us) ∧ DpAll K H' us (((cs.take j).map (Cel.sub (look prs))).map Cel.d)) ⟨[], rfl, .nil⟩ (fun j H' _ ⟨us, e1, _⟩ => ?_) ?_ ?_⟩
      · subst e1
        exact (new_same ng).seqT hS
      · rintro j y H' hy ⟨us, rfl, hU⟩
        obtain ⟨dc, hdc, hc⟩ := hA.at hy
        rw [List.getElem?_map] at hdc
        obtain ⟨c, hc0, rfl⟩ := Option.map_eq_some_iff.mp hdc
        have jl : j < cs.length := (List.getElem?_eq_some_iff.mp hc0).1
        have hc1 := Dp.keep (TK.new (o := .lst us) ng) _ _ (cel_pu c) hc
        have hd1 : (L2.upd H g (.lst us)) d = some (.dK (dicT prs)) := by rw [upd_ne (ne_of_none hd ng)]; exact hd
        have ul := hU.len
        rw [List.length_map, List.length_map, List.length_take] at ul
        walk_at "go"
        refine ⟨rfl, ?_⟩
        walk_at "go"
        refine l_getC0 ?_
        walk_at "go"
        refine ⟨d, rfl, .inl ⟨_, .inl hd1⟩, ?_⟩
        walk_at "go"
        obtain ⟨o, hg, hv'⟩ := l_get (Q := fun w h => Dp K h w (c.sub (look prs)).d) hd1 hc1 fun _ h => h
        refine ⟨o, hg, us, upd_same, fits_lt (by omega), _, by rw [upd_upd], ?_⟩
        rw [List.take_add_one, hc0, List.map_append, List.map_append]
        exact DpAll.snoc (DpAll.keep (TK.put upd_same) _ _ (cels_pu _) hU) (Dp.keep (TK.put upd_same) _ _ (cel_pu _) hv')
      · rintro H' ⟨us, rfl, hU⟩
        rw [el, List.take_length] at hU
        refine l_tupL (sqL upd_same) fun r nr => ?_
        show Q _ _
        exact q _ _ ((new_same ng).trans (new_same nr)) (.tup (sqT upd_same) (DpAll.keep (TK.new nr) _ _ (cels_pu _) hU))
end
end K06
namespace K06
open PySem PySem.Spec PyProof.Rows L2 Tq
section
variable {P : Program} {w : World} {K : PySem.W.Frag} {mg : Str → Option Value} {base : Heap}
def spRwn (K : PySem.W.Frag) : Sp := fun vs H Q _ => ∃ (v0 : V) (R : List CRow) (d : Addr) (prs : List (Str × Str)), vs = [v0, .ref d] ∧ Dp K H v0 (recD R) ∧ H d = some (.dK (dicT prs)) ∧ celN R ≤ 1000 ∧ R.length ≤ 1000 ∧
  ∀ (v : V) (H' : Hp), Same H H' → Dp K H' v (recD (recSub (look prs) R)) → Q v H'

theorem ok_record_with_new_texts (D : Ds K mg) (T : Txt mg) : FnOk P w K mg base CX0 2 D.record_with_new_texts.f D.record_with_new_texts.fd ["record", "news"] (spRwn K) := by
  have sc := sc_record_with_new_texts
  refine D.record_with_new_texts.F.ok sc (fun vs H Q E h => ?_) (fun cdv A outer s H vs Q E hr h => ?_)
  · obtain ⟨v0, R, d, prs, rfl, _⟩ := h
    rfl
  · obtain ⟨v0, R, d, prs, rfl, hR, hd, rl, rn, q⟩ := h
    refine ⟨_, (pss_one (ps_ret (pe_callTy (k_tuple (K := K) rfl) (by rfl) T.b_tuple (by decide +kernel) (pa_cons (pe_lc (own := [("row", 2)]) rfl sc.nd (k_piT (K := K) rfl (pv 0)) (blkOk_by (N := ["record", "news", "row"]) (sc := defScope s_record_with_new_texts) (by decide +kernel)) (fun _ _ _ _ _ => (pg_name (i := 2) sc.nd rfl (Or.inl rfl))) (fun _ _ _ _ _ => pts_nil) (fun _ _ _ _ _ => (pe_call (ok_row_with_new_texts D T) hr (by rfl) D.row_with_new_texts.g D.row_with_new_texts.F.kp D.row_with_new_texts.b .nil pass0 (pa_cons (pv 2) (pa_cons (pv 1) pa_nil))))) pa_nil)))), ?_⟩
    walk_at "go"
    obtain ⟨p, xs, rfl, hS, hA⟩ := dp_tup hR
    have el : xs.length = R.length := by rw [hA.len, List.length_map]
    refine ⟨p, rfl, ⟨xs, hS⟩, fun g ng => lc_tup (xs := xs) (fun j H' => ∃ us, H' g = some (.lst us) ∧ DpAll K H' us (((R.take j).map (rowSub (look prs))).map rowD) ∧ Same H H') ⟨[], upd_same, .nil, new_same ng⟩ (fun j H' _ ⟨us, _, _, S⟩ => S.seqT hS) ?_ ?_⟩
    · rintro j y H' hy ⟨us, hg, hU, B⟩
      obtain ⟨dr, hdr, hrow⟩ := hA.at hy
      rw [List.getElem?_map] at hdr
      obtain ⟨r, hr0, rfl⟩ := Option.map_eq_some_iff.mp hdr
      have jl : j < R.length := (List.getElem?_eq_some_iff.mp hr0).1
      have hrow1 := Dp.keep (TK.of_same B) _ _ (row_pu r) hrow
      have ul := hU.len
      rw [List.length_map, List.length_map, List.length_take] at ul
      walk_at "go"
      refine ⟨rfl, ?_⟩
      walk_at "go"
      refine ⟨y, r, d, prs, rfl, hrow1, B _ _ hd, Nat.le_trans (row_le hr0) rl, fun v H'' S hv => ?_⟩
      have hg2 := S _ _ hg
      refine ⟨us, hg2, fits_lt (by omega), us ++ [v], upd_same, ?_, fun b o hb => ?_⟩
      · rw [List.take_add_one, hr0, List.map_append, List.map_append]
        exact DpAll.snoc (DpAll.keep ((TK.of_same S).trans (TK.put hg2)) _ _ (rows_pu _) hU) (Dp.keep (TK.put hg2) _ _ (row_pu _) hv)
      · rw [upd_ne (ne_of_none hb ng)]
        exact S _ _ (B _ _ hb)
    · rintro H' ⟨us, hg, hU, B⟩
      rw [el, List.take_length] at hU
      refine l_tupL (sqL hg) fun r nr => ?_
      show Q _ _
      exact q _ _ (B.trans (new_same nr)) (.tup (sqT upd_same) (DpAll.keep (TK.new nr) _ _ (rows_pu _) hU))
end
end K06
namespace K06
open PySem PySem.Spec PyProof.Rows L2 Tq
section
variable {P : Program} {w : World} {K : PySem.W.Frag} {mg : Str → Option Value} {base : Heap}
def spRen (K : PySem.W.Frag) : Sp := fun vs H Q _ => ∃ (v0 : V) (R : List CRow) (p0 : Addr) (ps : List Addr) (prs : List (Str × Str)), vs = [v0, .ref p0] ∧ Dp K H v0 (recD R) ∧ H p0 = some (TPO p0 (ps.map V.ref)) ∧ PairsT K H ps prs ∧ celN R ≤ 1000 ∧ R.length ≤ 1000 ∧
  ∀ (v : V) (H' : Hp), But p0 H H' → H' p0 = some (.tup (ps.map V.ref)) → Dp K H' v (recD (recSub (look prs) R)) → Q v H'

theorem ok_renamed (D : Ds K mg) (T : Txt mg) : FnOk P w K mg base CX0 3 D.renamed.f D.renamed.fd ["record", "pairs"] (spRen K) := by
  have sc := sc_renamed
  refine D.renamed.F.ok sc (fun vs H Q E h => ?_) (fun cdv A outer s H vs Q E hr h => ?_)
  · obtain ⟨v0, R, p0, ps, prs, rfl, _⟩ := h
    rfl
  · obtain ⟨v0, R, p0, ps, prs, rfl, hR, hp, hps, rl, rn, q⟩ := h
    refine ⟨_, (pss_one (ps_ret (pe_call (ok_record_with_new_texts D T) hr (by rfl) D.record_with_new_texts.g D.record_with_new_texts.F.kp D.record_with_new_texts.b .nil pass0 (pa_cons (pv 0) (pa_cons (pe_callTy (k_dictP (K := K) rfl rfl) (by rfl) T.b_dict (by decide +kernel) (pa_cons (pv 1) pa_nil)) pa_nil))))), ?_⟩
    walk_at "go"
    refine ⟨p0, ps, _, rfl, hp, hps, fun d nd => ?_⟩
    rw [show mergeK [] (prs.map fun p => ((Sum.inr p.1 : Key), V.str p.2)) = dicT prs from rfl]
    walk_at "go"
    have pd : p0 ≠ d := ne_of_none hp nd
    have tk0 : TK H (L2.upd (L2.upd H p0 (.tup (ps.map V.ref))) d (.dK (dicT prs))) := fun b ys r => by
      have nb : b ≠ p0 := by
        rintro rfl
        rcases r with r | ⟨o, r⟩ <;> rw [hp] at r <;> cases r
      have nb2 : b ≠ d := by
        rintro rfl
        rcases r with r | ⟨o, r⟩ <;> rw [nd] at r <;> cases r
      rcases r with r | ⟨o, r⟩
      · exact .inl (by rw [upd_ne nb2, upd_ne nb]; exact r)
      · exact .inr ⟨o, by rw [upd_ne nb2, upd_ne nb]; exact r⟩
    have hR0 := Dp.keep tk0 _ _ (rec_pu R) hR
    have B0 : But p0 H (L2.upd (L2.upd H p0 (.tup (ps.map V.ref))) d (.dK (dicT prs))) := But.new (But.upd (But.refl p0 H)) nd
    have hd0 : (L2.upd (L2.upd H p0 (.tup (ps.map V.ref))) d (.dK (dicT prs))) d = some (.dK (dicT prs)) := upd_same
    have hp0 : (L2.upd (L2.upd H p0 (.tup (ps.map V.ref))) d (.dK (dicT prs))) p0 = some (.tup (ps.map V.ref)) := by rw [upd_ne pd]; exact upd_same
    generalize (L2.upd (L2.upd H p0 (.tup (ps.map V.ref))) d (.dK (dicT prs))) = H0 at *
    walk_at "go"
    refine ⟨v0, R, d, prs, rfl, hR0, hd0, rl, rn, fun v H1 S1 hv => ?_⟩
    walk_at "go"
    show Q _ _
    exact q v H1 (fun b o nb hb => S1 _ _ (B0 b o nb hb)) (S1 _ _ hp0) hv
end
end K06
namespace K06
open PySem PySem.Spec PyProof.Rows L2 Tq
section
variable {P : Program} {w : World} {K : PySem.W.Frag} {mg : Str → Option Value} {base : Heap}
def spCan (K : PySem.W.Frag) : Sp := fun vs H Q _ => ∃ (v0 : V) (R : List CRow) (p0 : Addr) (fx : List Str), vs = [v0, .ref p0] ∧ Dp K H v0 (recD R) ∧ celN R ≤ 900 ∧ R.length ≤ 1000 ∧ SqT K H p0 (fx.map V.str) ∧ fx.length ≤ 900 ∧
  ∀ (v : V) (H' : Hp), Same H H' → Dp K H' v (recD (canon fx R)) → Q v H'

theorem ok_canonical (D : Ds K mg) (T : Txt mg) : FnOk P w K mg base CX0 4 D.canonical.f D.canonical.fd ["record", "constants"] (spCan K) := by
  have sc := sc_canonical
  refine D.canonical.F.ok sc (fun vs H Q E h => ?_) (fun cdv A outer s H vs Q E hr h => ?_)
  · obtain ⟨v0, R, p0, fx, rfl, _⟩ := h
    rfl
  · obtain ⟨v0, R, p0, fx, rfl, hR, rl, rn, hq, fl, q⟩ := h
    refine ⟨_, (pss_cons (ps_set (i := 2) sc.nd rfl (Or.inl rfl) (pe_call (ok_free_texts D T) (hr.mono (by decide)) (by rfl) D.free_texts.g D.free_texts.F.kp D.free_texts.b .nil pass0 (pa_cons (pv 0) (pa_cons (pv 1) pa_nil))))
    (pss_cons (ps_set (i := 3) sc.nd rfl (Or.inl rfl) (pe_callN (ok_sample_texts D T) (hr.mono (by decide)) (by rfl) D.sample_texts.g D.sample_texts.F.kp D.sample_texts.kb pass0 (pa_cons (pe_callB (k_len (K := K) rfl) (by rfl) T.b_len PySem.boot_len (pa_cons (pv 2) pa_nil)) pa_nil) (pk_cons (pv 1) pk_nil)))
    (pss_one (ps_ret (pe_call (ok_renamed D T) hr (by rfl) D.renamed.g D.renamed.F.kp D.renamed.b .nil pass0 (pa_cons (pv 0) (pa_cons (k_tupZip (K := K) rfl rfl (by rfl) T.b_tuple (by rfl) T.b_zip (pa_cons (pv 2) (pa_cons (pv 3) pa_nil))) pa_nil))))))), ?_⟩
    walk_at "go"
    refine ⟨v0, R, p0, fx, rfl, hR, rl, hq, fl, fun p H1 S1 n1 h1 => ?_⟩
    walk_at "go"
    have fn := freeT_len fx R
    have lm : ((freeT fx R).map V.str).length = (freeT fx R).length := List.length_map ..
    refine ⟨rfl, rfl, _, p0, fx, rfl, by omega, by rw [lm]; omega, S1.seqT hq, by omega, fun p2 H2 S2 n2 h2 => ?_⟩
    rw [lm, Int.toNat_natCast] at h2
    walk_at "go"
    refine l_tz0 ?_
    walk_at "go"
    have sl := firstN_len "v" (freeT fx R).length fx
    refine ⟨p, p2, _, _, rfl, sqT (S2 _ _ h1), sqT h2, by rw [List.length_map, List.length_map, sl], fun ps q0 lp nd fr nq off => ?_⟩
    rw [lm] at lp
    have s3 := lay_same (r := ((freeT fx R).map V.str).zip ((firstN "v" (freeT fx R).length fx).map V.str)) fr
    have nq3 : (lay H2 ps (((freeT fx R).map V.str).zip ((firstN "v" (freeT fx R).length fx).map V.str))) q0 = none := (lay_ne off).trans nq
    have s4 := new_same (o := TPO q0 (ps.map V.ref)) nq3
    have s14 := ((S1.trans S2).trans s3).trans s4
    refine ⟨v0, R, q0, ps, (freeT fx R).zip (firstN "v" (freeT fx R).length fx), rfl, Dp.keep (TK.of_same s14) _ _ (rec_pu R) hR, upd_same, PairsT.keep (TK.of_same s4) (pairsT_lay nd lp sl.symm), by omega, rn, fun v H5 B5 _ hv => ?_⟩
    walk_at "go"
    show Q _ _
    exact q v H5 (fun b o hb => B5 b o (ne_of_none (((S1.trans S2).trans s3) _ _ hb) nq3) (s14 _ _ hb)) hv
end
end K06
namespace K06
open PySem PySem.Spec PyProof.Rows L2 Tq
section
variable {P : Program} {w : World} {K : PySem.W.Frag} {mg : Str → Option Value} {base : Heap}
def spRng (K : PySem.W.Frag) : Sp := fun vs H Q _ => ∃ (v0 v1 : V) (R S : List CRow) (p0 : Addr) (fx : List Str), vs = [v0, v1, .ref p0] ∧ Dp K H v0 (recD R) ∧ Dp K H v1 (recD S) ∧ RecOk R ∧ RecOk S ∧ celN R ≤ 900 ∧ R.length ≤ 1000 ∧ celN S ≤ 900 ∧ S.length ≤ 1000 ∧ SqT K H p0 (fx.map V.str) ∧ fx.length ≤ 900 ∧
  (¬ canon fx R = canon fx S → ∀ H', Same H H' → Q .non H') ∧
  (canon fx R = canon fx S → ∀ (p : Addr) (ps : List Addr) (H' : Hp), Same H H' → H' p = some (.tup (ps.map V.ref)) → PairsT K H' ps ((freeT fx R).zip (freeT fx S)) → Q (.ref p) H')

theorem ok_renamingQ (D : Ds K mg) (T : Txt mg) : FnOk P w K mg base CX0 5 D.renamingQ.f D.renamingQ.fd ["first", "second", "constants"] (spRng K) := by
  have sc := sc_renamingQ
  refine D.renamingQ.F.ok sc (fun vs H Q E h => ?_) (fun cdv A outer s H vs Q E hr h => ?_)
  · obtain ⟨v0, v1, R, S, p0, fx, rfl, _⟩ := h
    rfl
  · obtain ⟨v0, v1, R, S, p0, fx, rfl, hR, hS, oR, oS, rl, rn, sl, sn, hq, fl, q1, q2⟩ := h
    refine ⟨_, (pss_cons (ps_if (pt_cmpR (k_neD (K := K) rfl hr.units) (pe_call (ok_canonical D T) hr (by rfl) D.canonical.g D.canonical.F.kp D.canonical.b .nil pass0 (pa_cons (pv 0) (pa_cons (pv 2) pa_nil))) (pe_call (ok_canonical D T) hr (by rfl) D.canonical.g D.canonical.F.kp D.canonical.b .nil pass0 (pa_cons (pv 1) (pa_cons (pv 2) pa_nil))) (nomark _)) (pss_one (ps_ret pe_non)) pss_nil)
    (pss_one (ps_ret (k_tupZipT (K := K) rfl rfl (by rfl) T.b_tuple (by rfl) T.b_zip (pa_cons (pe_call (ok_free_texts D T) (hr.mono (by decide)) (by rfl) D.free_texts.g D.free_texts.F.kp D.free_texts.b .nil pass0 (pa_cons (pv 0) (pa_cons (pv 2) pa_nil))) (pa_cons (pe_call (ok_free_texts D T) (hr.mono (by decide)) (by rfl) D.free_texts.g D.free_texts.F.kp D.free_texts.b .nil pass0 (pa_cons (pv 1) (pa_cons (pv 2) pa_nil))) pa_nil)))))), ?_⟩
    walk_at "go"
    refine ⟨v0, R, p0, fx, rfl, hR, rl, rn, hq, fl, fun w1 H1 S1 hw1 => ?_⟩
    walk_at "go"
    refine ⟨v1, S, p0, fx, rfl, Dp.keep (TK.of_same S1) _ _ (rec_pu S) hS, sl, sn, S1.seqT hq, fl, fun w2 H2 S2 hw2 => ?_⟩
    walk_at "go"
    refine l_neR (canon_ok oR) (canon_ok oS) (Dp.keep (TK.of_same S2) _ _ (rec_pu _) hw1) hw2 ?_
    walk_at "go"
    have S12 := S1.trans S2
    refine l_ifN (fun c1 => ?_) (fun c1 => ?_)
    · walk_at "go"
      exact q1 c1 _ S12
    · walk_at "go"
      refine l_tzT ?_
      walk_at "go"
      refine ⟨v0, R, p0, fx, rfl, Dp.keep (TK.of_same S12) _ _ (rec_pu R) hR, rl, S12.seqT hq, fl, fun p H3 S3 n3 h3 => ?_⟩
      walk_at "go"
      have S13 := S12.trans S3
      refine ⟨v1, S, p0, fx, rfl, Dp.keep (TK.of_same S13) _ _ (rec_pu S) hS, sl, S13.seqT hq, fl, fun p2 H4 S4 n4 h4 => ?_⟩
      walk_at "go"
      have ll := canon_lens c1
      refine ⟨p, p2, _, _, rfl, sqT (S4 _ _ h3), sqT h4, by rw [List.length_map, List.length_map, ll], fun ps q0 lp nd fr nq off => ?_⟩
      rw [List.length_map] at lp
      have s5 := lay_same (r := ((freeT fx R).map V.str).zip ((freeT fx S).map V.str)) fr
      have nq5 := (lay_ne (r := ((freeT fx R).map V.str).zip ((freeT fx S).map V.str)) (H := H4) off).trans nq
      have s6 := new_same (o := .tup (ps.map V.ref)) nq5
      have S16 := ((S13.trans S4).trans s5).trans s6
      show Q _ _
      exact q2 c1 q0 ps _ S16 upd_same (PairsT.keep (TK.of_same s6) (pairsT_lay nd lp ll))
end
end K06
namespace K06
open PySem PySem.Spec PyProof.Rows L2 Tq
section
variable {P : Program} {w : World} {K : PySem.W.Frag} {mg : Str → Option Value} {base : Heap}
def spTape (K : PySem.W.Frag) : Sp := fun vs H Q _ => ∃ (s : Addr) (ns : List Int), vs = [.ref s] ∧ SqL K H s (ns.map V.int) ∧ ns.length ≤ 63 ∧ ∀ (t a : Addr) (H' : Hp), Same H H' → Tape H' t a → H t = none → H a = none → Q (.ref t) H'

theorem ok_law_tape (D : Ds K mg) (T : Txt mg) : FnOk P w K mg base CX0 1 D.law_tape.f D.law_tape.fd ["script"] (spTape K) := by
  have sc := sc_law_tape
  refine D.law_tape.F.ok sc (fun vs H Q E h => ?_) (fun cdv A outer s H vs Q E hr h => ?_)
  · obtain ⟨s0, ns, rfl, _⟩ := h
    rfl
  · obtain ⟨s0, ns, rfl, hS, few, q⟩ := h
    refine ⟨_, (pss_cons (ps_set (i := 1) sc.nd rfl (Or.inl rfl) pe_int)
    (pss_cons (ps_for PassesOwn.never rfl (k_piL (K := K) rfl (pv 0)) (pg_name (i := 2) sc.nd rfl (Or.inl rfl)) (pss_one (ps_set (i := 1) sc.nd rfl (Or.inl rfl) (pe_op o_mod (pe_callTy c_int (by rfl) T.b_int (by decide +kernel) (pa_cons (pe_op o_add (pe_op o_mul (pv 1) pe_int) (pe_callB c_abs (by rfl) T.b_abs (by decide +kernel) (pa_cons (pe_callTy c_int (by rfl) T.b_int (by decide +kernel) (pa_cons (pv 2) pa_nil)) pa_nil))) pa_nil)) pe_int))))
    (pss_one (ps_ret (pe_lst (pa_cons (pe_callTy (k_list (K := K) rfl) (by rfl) T.b_list (by decide +kernel) (pa_cons (pv 0) pa_nil)) (pa_cons pe_int (pa_cons pe_int (pa_cons (pv 1) pa_nil))))))))), ?_⟩
    walk_at "go"
    refine ⟨s0, rfl, ⟨_, hS⟩, for_list (xs := ns.map V.int) (fun i σ H' => ∃ c y, σ = [some (.ref s0), some (.int c), y] ∧ 0 ≤ c ∧ H' = H) ⟨7, none, rfl, by decide, rfl⟩ ?_ ?_ ?_⟩
    · rintro i σ H' _ ⟨c, y, rfl, _, rfl⟩
      exact hS
    · rintro i x σ H' hx ⟨c, y, rfl, c0, rfl⟩
      obtain ⟨z, _, rfl⟩ : ∃ z, ns[i]? = some z ∧ x = V.int z := by
        rw [List.getElem?_map] at hx
        cases e : ns[i]? with
        | none => rw [e] at hx; cases hx
        | some z => rw [e] at hx; exact ⟨z, rfl, (Option.some.inj hx).symm⟩
      have m31 : CMul c 31 := .inr ⟨by decide, by decide⟩
      have z0 := abs_nn z
      walk_at "go"
      exact ⟨_, _, rfl, (fmod_lt (by omega) (by decide)).1, rfl⟩
    · rintro σ H' ⟨c, y, rfl, c0, rfl⟩
      walk_at "go"
      refine l_listL hS fun l nl => ?_
      walk_at "go"
      refine ⟨(by show 4 ≤ sizeLine; decide), fun p np => ?_⟩
      show Q _ _
      have nlp : l ≠ p := fun e => by
        rw [← e, upd_same] at np
        cases np
      have np' : H' p = none := by rwa [upd_ne nlp.symm] at np
      refine q p l _ ((new_same nl).trans (new_same np)) ⟨ns, 0, 0, c, nlp, by decide, by decide, c0, by rw [upd_ne nlp]; exact upd_same, upd_same⟩ np' nl
end
end K06
namespace K06
open PySem PySem.Spec PyProof.Rows L2 Tq
section
variable {P : Program} {w : World} {K : PySem.W.Frag} {mg : Str → Option Value} {base : Heap}
/-- what a draw gives: a number below the bound, the tape as a tape -/
def spDraw (K : PySem.W.Frag) : Sp := fun vs H Q _ => ∃ (t a : Addr) (m : Int), vs = [.ref t, .int m] ∧ Tape H t a ∧ m < 1000000000000 ∧
  ∀ (n : Int) (H' : Hp), 0 ≤ n → n < max m 1 → Tape H' t a → But t H H' → Q (.int n) H'

theorem ok_law_draw (D : Ds K mg) (T : Txt mg) : FnOk P w K mg base CX0 1 D.law_draw.f D.law_draw.fd ["tape", "many"] (spDraw K) := by
  have sc := sc_law_draw
  refine D.law_draw.F.ok sc (fun vs H Q E h => ?_) (fun cdv A outer s H vs Q E hr h => ?_)
  · obtain ⟨t, a, m, rfl, _⟩ := h
    rfl
  · obtain ⟨t, a, m, rfl, hT, hm, q⟩ := h
    refine ⟨_, (pss_cons (ps_if (pt_cmpR op_eq (pe_ix (k_ixL (K := K) rfl) (pv 0) pe_int (fun _ _ => rfl)) pe_int (nomark _)) (pss_cons (ps_set (i := 2) sc.nd rfl (Or.inl rfl) (pe_ix (k_ixL (K := K) rfl) (pv 0) pe_int (fun _ _ => rfl)))
    (pss_cons (ps_set (i := 3) sc.nd rfl (Or.inl rfl) pe_int)
    (pss_cons (ps_if (pt_cmpR o_lt (pv 2) (pe_callB (k_len (K := K) rfl) (by rfl) T.b_len PySem.boot_len (pa_cons (pe_ix (k_ixL (K := K) rfl) (pv 0) pe_int (fun _ _ => rfl)) pa_nil)) (nomark _)) (pss_one (ps_set (i := 3) sc.nd rfl (Or.inl rfl) (pe_callB c_abs (by rfl) T.b_abs (by decide +kernel) (pa_cons (pe_callTy c_int (by rfl) T.b_int (by decide +kernel) (pa_cons (pe_ix (k_ixL (K := K) rfl) (pe_ix (k_ixL (K := K) rfl) (pv 0) pe_int (fun _ _ => rfl)) (pv 2) (fun _ _ => rfl)) pa_nil)) pa_nil)))) (pss_cons (ps_asg (pe_op o_mod (pe_callTy c_int (by rfl) T.b_int (by decide +kernel) (pa_cons (pe_op o_add (pe_op o_add (pe_op o_mul (pe_ix (k_ixL (K := K) rfl) (pv 0) pe_int (fun _ _ => rfl)) pe_int) (pv 2)) pe_int) pa_nil)) pe_int) (pg_sub (pv 0) pe_int set_list))
    (pss_one (ps_set (i := 3) sc.nd rfl (Or.inl rfl) (pe_ix (k_ixL (K := K) rfl) (pv 0) pe_int (fun _ _ => rfl))))))
    (pss_cons (ps_asg (pe_op o_add (pv 2) pe_int) (pg_sub (pv 0) pe_int set_list))
    (pss_cons (ps_if (pt_cmpR o_lt (pv 3) (pe_op o_pow pe_int pe_int) (nomark _)) (pss_cons (ps_set (i := 3) sc.nd rfl (Or.inl rfl) (pe_op o_mod (pe_callTy c_int (by rfl) T.b_int (by decide +kernel) (pa_cons (pe_op o_add (pe_op o_add (pe_op o_mul (pv 3) pe_int) (pe_op o_mul (pv 2) pe_int)) pe_int) pa_nil)) pe_int))
    (pss_cons (ps_set (i := 3) sc.nd rfl (Or.inl rfl) (pe_op o_mod (pe_callTy c_int (by rfl) T.b_int (by decide +kernel) (pa_cons (pe_op o_mul (pv 3) pe_int) pa_nil)) pe_int))
    (pss_one (ps_ret (pe_op o_mod (pe_callTy c_int (by rfl) T.b_int (by decide +kernel) (pa_cons (pv 3) pa_nil)) (pe_callB (c_max rfl) (by rfl) T.b_max (by decide +kernel) (pa_cons (pv 1) (pa_cons pe_int pa_nil)))))))) pss_nil)
    (pss_one (ps_asg (pv 3) (pg_sub (pv 0) pe_int set_list)))))))) pss_nil)
    (pss_cons (ps_set (i := 3) sc.nd rfl (Or.inl rfl) (pe_ix (k_ixL (K := K) rfl) (pv 0) pe_int (fun _ _ => rfl)))
    (pss_cons (ps_asg (pe_op o_div (pv 3) (pe_callB (c_max rfl) (by rfl) T.b_max (by decide +kernel) (pa_cons (pv 1) (pa_cons pe_int pa_nil)))) (pg_sub (pv 0) pe_int set_list))
    (pss_one (ps_ret (pe_op o_mod (pe_callTy c_int (by rfl) T.b_int (by decide +kernel) (pa_cons (pv 3) pa_nil)) (pe_callB (c_max rfl) (by rfl) T.b_max (by decide +kernel) (pa_cons (pv 1) (pa_cons pe_int pa_nil))))))))), ?_⟩
    obtain ⟨ns, p, c, d, nat, p0, c0, d0, ha, ht⟩ := hT
    have k1 : (0 : Int) < (if 1 > m then 1 else m) := by split <;> omega
    have k2 : (1 : Int) < (if 2 > m then 2 else m) ∧ (if 2 > m then 2 else m) < 1073741824000 := by split <;> omega
    have e1 : (if 1 > m then 1 else m) = max m 1 := max_eq m 1
    have fin : ∀ (p' c' d' z : Int), 0 ≤ p' → 0 ≤ c' → 0 ≤ d' → 0 ≤ z → Q (V.int (z.fmod (if 1 > m then 1 else m))) (upd H t (.lst [.ref a, .int p', .int c', .int d'])) := by
      intro p' c' d' z a1 a2 a3 a4
      have f := fmod_lt a4 k1
      refine q _ _ f.1 (by rw [← e1]; exact f.2) ⟨ns, p', c', d', nat, a1, a2, a3, by rw [upd_ne nat]; exact ha, upd_same⟩ (But.upd (But.refl t H))
    have m48 : ∀ z : Int, CMul z 48271 := fun z => .inr ⟨by decide, by decide⟩
    walk_at "go"
    refine l_if (fun c1 => ?_) (fun c1 => ?_)
    · subst c1
      walk_at "go"
      refine l_if (fun c2 => ?_) (fun c2 => ?_)
      · rw [List.length_map] at c2
        obtain ⟨z, hz, _⟩ := atI_map (f := V.int) p0 c2
        have z0 := abs_nn z
        walk_at "go"
        refine l_if (fun c3 => ?_) (fun c3 => ?_)
        · walk_at "go"
          show Q _ _
          exact fin (p + 1) 0 d _ (by omega) (by omega) d0 (fmod_lt (Int.mul_nonneg (fmod_lt (by omega) (by decide)).1 (by decide)) (by decide)).1
        · walk_at "go"
          show Q _ _
          have z1 := fdiv_nn z0 (show (0 : Int) < (if 2 > m then 2 else m) by omega)
          rw [upd_upd, upd_upd]
          exact fin (p + 1) _ d _ (by omega) z1 d0 z0
      · walk_at "go"
        have d1 : 0 ≤ (d * 48271 + p + 1).fmod 2147483647 := (fmod_lt (by omega) (by decide)).1
        refine l_if (fun c3 => ?_) (fun c3 => ?_)
        · walk_at "go"
          show Q _ _
          rw [upd_upd]
          exact fin (p + 1) 0 _ _ (by omega) (by omega) d1 (fmod_lt (Int.mul_nonneg (fmod_lt (by omega) (by decide)).1 (by decide)) (by decide)).1
        · walk_at "go"
          show Q _ _
          have z1 := fdiv_nn d1 (show (0 : Int) < (if 2 > m then 2 else m) by omega)
          rw [upd_upd, upd_upd, upd_upd]
          exact fin (p + 1) _ _ _ (by omega) z1 d1 d1
    · walk_at "go"
      show Q _ _
      exact fin p _ d c p0 (fdiv_nn c0 (by omega)) d0 c0
end
end K06
namespace K06
open PySem PySem.Spec PyProof.Rows L2 Tq
section
variable {P : Program} {w : World} {K : PySem.W.Frag} {mg : Str → Option Value} {base : Heap}
def spText (K : PySem.W.Frag) : Sp := fun vs H Q _ => ∃ (t a : Addr), vs = [.ref t] ∧ Tape H t a ∧ ∀ (z : Str) (H' : Hp), IsText z → Tape H' t a → But t H H' → Q (.str z) H'
def marks : Str := " !#$&'()*+,-./0123456789:;<=>?@ABCDEFGHIJKLMNOPQRSTUVWXYZ[\\]^_`abcdefghijklmnopqrstuvwxyz{|}~"
theorem marks_ok : ∀ c ∈ marks.cps.toList, 32 ≤ c ∧ c ≤ 126 ∧ c ≠ 34 ∧ c ≠ 37 := by decide +kernel
theorem marks_len : marks.cps.toList.length = 93 := by decide +kernel
def twelve : List Str := ["", "v1", "v2", "v3", "c1", "c2", " ", "null", "v01", "V1", "v10", "x"]
theorem twelve_ok : ∀ z ∈ twelve, z.length ≤ 12 ∧ ∀ c ∈ z.cps.toList, 32 ≤ c ∧ c ≤ 126 ∧ c ≠ 34 ∧ c ≠ 37 := by decide +kernel

theorem ok_law_text (D : Ds K mg) (T : Txt mg) : FnOk P w K mg base CX0 2 D.law_text.f D.law_text.fd ["tape"] (spText K) := by
  have sc := sc_law_text
  refine D.law_text.F.ok sc (fun vs H Q E h => ?_) (fun cdv A outer s H vs Q E hr h => ?_)
  · obtain ⟨t, a, rfl, _⟩ := h
    rfl
  · obtain ⟨t, a, rfl, hT, q⟩ := h
    refine ⟨_, (pss_cons (ps_set (i := 1) sc.nd rfl (Or.inl rfl) pe_str)
    (pss_cons (ps_set (i := 2) sc.nd rfl (Or.inl rfl) (pe_call (ok_law_draw D T) hr (by rfl) D.law_draw.g D.law_draw.F.kp D.law_draw.b .nil pass0 (pa_cons (pv 0) (pa_cons pe_int pa_nil))))
    (pss_cons (ps_if (pt_cmpR o_lt (pv 2) pe_int (nomark _)) (pss_one (ps_ret (pe_ix (k_ixL (K := K) rfl) (pe_lst (pa_cons pe_str (pa_cons pe_str (pa_cons pe_str (pa_cons pe_str (pa_cons pe_str (pa_cons pe_str (pa_cons pe_str (pa_cons pe_str (pa_cons pe_str (pa_cons pe_str (pa_cons pe_str (pa_cons pe_str pa_nil))))))))))))) (pv 2) (fun _ _ => rfl)))) pss_nil)
    (pss_cons (ps_set (i := 3) sc.nd rfl (Or.inl rfl) (pe_call (ok_law_draw D T) hr (by rfl) D.law_draw.g D.law_draw.F.kp D.law_draw.b .nil pass0 (pa_cons (pv 0) (pa_cons (pe_op o_mul (pe_op o_mul pe_int pe_int) pe_int) pa_nil))))
    (pss_cons (ps_set (i := 4) sc.nd rfl (Or.inl rfl) (pe_op o_add pe_int (pe_op o_mod (pe_callTy c_int (by rfl) T.b_int (by decide +kernel) (pa_cons (pv 3) pa_nil)) pe_int)))
    (pss_cons (ps_set (i := 5) sc.nd rfl (Or.inl rfl) (pe_op o_mod (pe_callTy c_int (by rfl) T.b_int (by decide +kernel) (pa_cons (pe_op o_div (pv 3) pe_int) pa_nil)) (pv 4)))
    (pss_cons (ps_set (i := 6) sc.nd rfl (Or.inl rfl) (pe_ix ix_str (pv 1) (pe_op o_mod (pe_callTy c_int (by rfl) T.b_int (by decide +kernel) (pa_cons (pe_op o_div (pv 3) pe_int) pa_nil)) pe_int) (fun _ _ => rfl)))
    (pss_one (ps_ret (pe_op o_addS (pe_op o_addS (pe_op op_mulS (pv 6) (pv 5)) (pe_ix ix_str (pv 1) (pe_op o_mod (pe_callTy c_int (by rfl) T.b_int (by decide +kernel) (pa_cons (pe_op o_div (pv 3) pe_int) pa_nil)) pe_int) (fun _ _ => rfl))) (pe_op op_mulS (pv 6) (pe_op o_sub (pe_op o_sub (pv 4) (pv 5)) pe_int)))))))))))), ?_⟩
    walk_at "go"
    refine ⟨t, a, 24, rfl, hT, by decide, fun n H1 n0 n1 T1 B1 => ?_⟩
    walk_at "go"
    refine l_if (fun c1 => ?_) (fun c1 => ?_)
    · walk_at "go"
      refine ⟨by decide, fun p np => ?_⟩
      obtain ⟨z, hz, hz2⟩ := atI_map (f := V.str) (xs := twelve) n0 c1
      have pt := T1.ne np
      refine l_var rfl ?_
      refine l_ixL (sqL upd_same) hz ?_
      show Q _ _
      have o := twelve_ok z (List.mem_of_getElem? hz2)
      exact q z _ ⟨o.1, o.2⟩ (T1.put pt.1 pt.2) (B1.trans (Same.but (new_same np)))
    · walk_at "go"
      refine ⟨t, a, _, rfl, T1, by decide, fun n2 H2 m0 m1 T2 B2 => ?_⟩
      have L := fmod_lt m0 (show (0 : Int) < 12 by decide)
      have P := fmod_lt (fdiv_nn m0 (show (0 : Int) < 12 by decide)) (show (0 : Int) < 1 + n2.fmod 12 by omega)
      have ml : marks.length ≤ sizeLine := by decide
      have i1 := fmod_lt (fdiv_nn m0 (show (0 : Int) < 144 by decide)) (show (0 : Int) < 93 by decide)
      have i2 := fmod_lt (fdiv_nn m0 (show (0 : Int) < 13392 by decide)) (show (0 : Int) < 93 by decide)
      obtain ⟨x1, hx1, hm1⟩ := atI_some (xs := marks.cps.toList) i1.1 (by rw [marks_len]; exact i1.2)
      obtain ⟨x2, hx2, hm2⟩ := atI_some (xs := marks.cps.toList) i2.1 (by rw [marks_len]; exact i2.2)
      have o1 := marks_ok x1 (List.mem_of_getElem? hm1)
      have o2 := marks_ok x2 (List.mem_of_getElem? hm2)
      walk_at "go"
      have e1 := mul1_len x1 ((n2.fdiv 12).fmod (1 + n2.fmod 12))
      have e2 := mul1_len x1 (1 + n2.fmod 12 - (n2.fdiv 12).fmod (1 + n2.fmod 12) - 1)
      refine l_addS (fits (by rw [e1, one_len]; omega)) ?_
      walk_at "go"
      refine l_addS (fits (by rw [app_len, e1, e2, one_len]; omega)) ?_
      show Q _ _
      refine q _ _ ⟨by rw [app_len, app_len, e1, e2, one_len]; omega, fun c hc => ?_⟩ T2 (B1.trans B2)
      rw [app_list, app_list, mul1_list, mul1_list, List.mem_append, List.mem_append] at hc
      rcases hc with (hc | hc) | hc
      · rw [List.eq_of_mem_replicate hc]; exact o1
      · rw [List.mem_singleton.mp hc]; exact o2
      · rw [List.eq_of_mem_replicate hc]; exact o1
end
end K06
namespace K06
open PySem PySem.Spec PyProof.Rows L2 Tq
section
variable {P : Program} {w : World} {K : PySem.W.Frag} {mg : Str → Option Value} {base : Heap}
def spTexts (K : PySem.W.Frag) : Sp := fun vs H Q _ => ∃ (t a : Addr) (m : Int) (p0 : Addr) (tk : List Str), vs = [.ref t, .int m, .ref p0] ∧ Tape H t a ∧ 0 ≤ m ∧ m ≤ 40 ∧ Sq K H p0 (tk.map V.str) ∧ p0 ≠ t ∧ tk.length ≤ 400 ∧
  ∀ (ts : List Str) (d : Addr) (H' : Hp), ts.length = m.toNat → ts.Nodup → (∀ z ∈ ts, z ∉ tk) → (∀ z ∈ ts, IsText z) → But t H H' → H d = none → H' d = some (.lst (ts.map V.str)) → Tape H' t a → Q (.ref d) H'

theorem ok_law_texts (D : Ds K mg) (T : Txt mg) : FnOk P w K mg base CX0 3 D.law_texts.f D.law_texts.fd ["tape", "many", "taken"] (spTexts K) := by
  have sc := sc_law_texts
  refine D.law_texts.F.ok sc (fun vs H Q E h => ?_) (fun cdv A outer s H vs Q E hr h => ?_)
  · obtain ⟨t, a, m, p0, tk, rfl, _⟩ := h
    rfl
  · obtain ⟨t, a, m, p0, tk, rfl, hT, m0, m1, hq0, pt, tl, q⟩ := h
    refine ⟨_, (pss_cons (ps_set (i := 3) sc.nd rfl (Or.inl rfl) (pe_lst pa_nil))
    (pss_cons (ps_for PassesOwn.never rfl (pi_range1 (by rfl) T.b_range (pa_cons (pv 1) pa_nil)) (pg_name (i := 4) sc.nd rfl (Or.inl rfl)) (pss_cons (ps_set (i := 5) sc.nd rfl (Or.inl rfl) (pe_call (ok_law_text D T) hr (by rfl) D.law_text.g D.law_text.F.kp D.law_text.b .nil pass0 (pa_cons (pv 0) pa_nil)))
    (pss_cons (ps_for PassesOwn.never rfl (pi_range1 (by rfl) T.b_range (pa_cons (pe_op o_add (pe_op o_add (pe_callB (k_len (K := K) rfl) (by rfl) T.b_len PySem.boot_len (pa_cons (pv 3) pa_nil)) (pe_callB (k_len (K := K) rfl) (by rfl) T.b_len PySem.boot_len (pa_cons (pv 2) pa_nil))) pe_int) pa_nil)) (pg_name (i := 6) sc.nd rfl (Or.inl rfl)) (pss_cons (ps_if (PW.pt (pw_and (pt_cmpR (k_notIn (K := K) rfl) (pv 5) (pv 3) (by rfl)) (pw_and1 (pt_cmpR (k_notIn (K := K) rfl) (pv 5) (pv 2) (by rfl))))) (pss_one ps_break) pss_nil)
    (pss_one (ps_set (i := 5) sc.nd rfl (Or.inl rfl) (pe_op o_addS pe_str (pe_callTy c_str (by rfl) T.b_str (by decide +kernel) (pa_cons (pv 6) pa_nil)))))))
    (pss_one (ps_expr (pe_bm PySem.F.plainAttrs_list PySem.F.slot_list_append PySem.F.type_list_append mt_append (pv 3) (pa_cons (pv 5) pa_nil)))))))
    (pss_one (ps_ret (pv 3))))), ?_⟩
    walk_at "go"
    refine ⟨Nat.zero_le _, fun d nd => ?_⟩
    walk_at "go"
    have dt := hT.ne nd
    have nmx : m.toNat ≤ 40 := by omega
    refine ⟨m, rfl, by omega, by omega, for_range (fun i σ H' => ∃ (ts : List Str) (y1 y2 y3 : Option V), σ = [some (.ref t), some (.int m), some (.ref p0), some (.ref d), y1, y2, y3] ∧ ts.length = i ∧ ts.Nodup ∧ (∀ z ∈ ts, z ∉ tk) ∧ (∀ z ∈ ts, IsText z) ∧
      H' d = some (.lst (ts.map V.str)) ∧ Tape H' t a ∧ But t H H') ⟨[], none, none, none, rfl, rfl, List.nodup_nil, by simp, by simp, upd_same, hT.put dt.1 dt.2, But.new (But.refl t H) nd⟩ ?_ ?_⟩
    · rintro i σ H1 hi ⟨ts, y1, y2, y3, rfl, el, nd1, nk, tx, hd, T1, B1⟩
      walk_at "go"
      refine ⟨t, a, rfl, T1, fun z H2 zt T2 B2 => ?_⟩
      have hd2 := B2 d _ dt.1 hd
      have B12 := B1.trans B2
      have hp2 := hq0.but B12 pt
      have lm1 : (ts.map V.str).length = ts.length := List.length_map ..
      have lm2 : (tk.map V.str).length = tk.length := List.length_map ..
      refine l_gname ?_
      with_reducible refine' l_cut (fun σ' H' => ∃ (u : Str) (y1 y2 : Option V), σ' = [some (.ref t), some (.int m), some (.ref p0), some (.ref d), y1, some (.str u), y2] ∧ IsText u ∧ u ∉ ts ∧ u ∉ tk ∧ H' = H2) (fun N hN => ?_) ?_
      · walk_at "go"
        refine l_lenX hp2 ?_
        walk_at "go"
        refine ⟨_, rfl, by rw [lm1, lm2]; omega, by rw [lm1, lm2]; omega, ?_⟩
        rw [lm1, lm2, show ((ts.length : Int) + (tk.length : Int) + 3).toNat = ts.length + tk.length + 3 by omega]
        refine for_range (fun j σ H' => ∃ (u : Str) (y1 y2 : Option V), σ = [some (.ref t), some (.int m), some (.ref p0), some (.ref d), y1, some (.str u), y2] ∧ IsText u ∧ (∀ k, k + 1 = j → u = nm "t" k) ∧ (∀ k, k + 1 < j → nm "t" k ∈ ts ++ tk) ∧ H' = H2)
          ⟨z, _, _, rfl, zt, fun k e => (nomatch e), fun k e => (nomatch e), rfl⟩ ?_ ?_
        · rintro j σ H3 hj ⟨u, y1, y2, rfl, ut, ue, uh, rfl⟩
          walk_at "go"
          refine l_in (.inl (sqL hd2)) ?_
          walk_at "go"
          -- the next text
          have nxt : (u ∈ ts ∨ u ∈ tk) → ∃ (w : Str) (y1 y2 : Option V), [some (V.ref t), some (V.int m), some (V.ref p0), some (V.ref d), y1, some (V.str (nm "t" j)), y2] = [some (.ref t), some (.int m), some (.ref p0), some (.ref d), y1, some (.str w), y2] ∧ IsText w ∧ (∀ k, k + 1 = j + 1 → w = nm "t" k) ∧ (∀ k, k + 1 < j + 1 → nm "t" k ∈ ts ++ tk) ∧ H3 = H3 := by
            intro hu
            refine ⟨nm "t" j, y1, y2, rfl, ?_, fun k e => by rw [show k = j by omega], fun k e => ?_, rfl⟩
            · have ln := nm_len (z := "t") (show j < 100000 by omega)
              refine ⟨Nat.le_trans ln (by decide), fun c hc => ?_⟩
              unfold nm at hc
              rw [app_list, List.mem_append] at hc
              rcases hc with hc | hc
              · have : ∀ c ∈ (Str.ofString "t").cps.toList, c = 116 := by decide +kernel
                have := this c hc
                omega
              · have := numS_ok _ c hc
                omega
            · by_cases e2 : k + 1 < j
              · exact uh k e2
              · rw [← ue k (by omega)]
                exact List.mem_append.mpr hu
          have k1 : (0 + (j : Int)) = (j : Int) := by omega
          have ln : (Str.ofString (toString (j : Int))).length ≤ 5 := numS_len (k := j) (by omega)
          have t1 : (Str.ofString "t").length = 1 := rfl
          refine l_ifN (fun c1 => ?_) (fun c1 => ?_)
          · walk_at "go"
            refine l_in hp2 ?_
            walk_at "go"
            refine l_ifN (fun c2 => ?_) (fun c2 => ?_)
            · show N _ _
              exact hN _ _ ⟨u, _, _, rfl, ut, c1, c2, rfl⟩
            · walk_at "go"
              rw [k1]
              refine l_str (log_small (by omega) (by omega)) ?_
              walk_at "go"
              refine l_addS (fits (by omega)) ?_
              walk_at "go"
              obtain ⟨w, z1, z2, e1, r1, r2, r3, r4⟩ := nxt (.inr c2)
              exact ⟨nm "t" j, _, _, rfl, by injections; simp_all, fun k e => by rw [show k = j by omega], r3, rfl⟩
          · walk_at "go"
            rw [k1]
            refine l_str (log_small (by omega) (by omega)) ?_
            walk_at "go"
            refine l_addS (fits (by omega)) ?_
            walk_at "go"
            obtain ⟨w, z1, z2, e1, r1, r2, r3, r4⟩ := nxt (.inl c1)
            exact ⟨nm "t" j, _, _, rfl, by injections; simp_all, fun k e => by rw [show k = j by omega], r3, rfl⟩
        · rintro σ H3 ⟨u, y1, y2, rfl, ut, ue, uh, rfl⟩
          exact absurd (few_names uh) (by omega)
      · rintro σ H3 ⟨u, y1, y2, rfl, ut, u1, u2, rfl⟩
        have room : (ts.map V.str).length < sizeLine := fits_lt (by omega)
        walk_at "go"
        refine ⟨ts ++ [u], _, _, _, rfl, by rw [List.length_append, List.length_singleton, el], ?_, ?_, ?_, by rw [upd_same, List.map_append]; rfl, T2.put dt.1 dt.2, ?_⟩
        · rw [List.nodup_append]
          exact ⟨nd1, by simp, fun y hy w hw e => u1 (by rw [List.mem_singleton.mp hw] at e; exact e ▸ hy)⟩
        · intro y hy
          rcases List.mem_append.mp hy with hy | hy
          · exact nk y hy
          · rw [List.mem_singleton.mp hy]; exact u2
        · intro y hy
          rcases List.mem_append.mp hy with hy | hy
          · exact tx y hy
          · rw [List.mem_singleton.mp hy]; exact ut
        · intro b o nb hb
          rw [upd_ne (ne_of_none hb nd)]
          exact B12 b o nb hb
    · rintro σ H1 ⟨ts, y1, y2, y3, rfl, el, nd1, nk, tx, hd, T1, B1⟩
      walk_at "go"
      show Q _ _
      exact q ts d H1 (by omega) nd1 nk tx B1 nd hd T1
end
end K06
namespace K06
open PySem PySem.Spec PyProof.Rows L2 Tq
section
variable {P : Program} {w : World} {K : PySem.W.Frag} {mg : Str → Option Value} {base : Heap}
def spShuf (K : PySem.W.Frag) : Sp := fun vs H Q _ => ∃ (t a p0 : Addr) (xs : List Str), vs = [.ref t, .ref p0] ∧ Tape H t a ∧ SqL K H p0 (xs.map V.str) ∧ p0 ≠ t ∧ xs.length ≤ 1000 ∧
  ∀ (ys : List Str) (d : Addr) (H' : Hp), ys.Perm xs → But t H H' → H d = none → d ≠ t → H' d = some (.lst (ys.map V.str)) → Tape H' t a → Q (.ref d) H'

theorem ok_law_shuffled (D : Ds K mg) (T : Txt mg) : FnOk P w K mg base CX0 2 D.law_shuffled.f D.law_shuffled.fd ["tape", "rows"] (spShuf K) := by
  have sc := sc_law_shuffled
  refine D.law_shuffled.F.ok sc (fun vs H Q E h => ?_) (fun cdv A outer s H vs Q E hr h => ?_)
  · obtain ⟨t, a, p0, xs, rfl, _⟩ := h
    rfl
  · obtain ⟨t, a, p0, xs, rfl, hT, hS, pt, xl, q⟩ := h
    refine ⟨_, (pss_cons (ps_set (i := 2) sc.nd rfl (Or.inl rfl) (pe_callTy (k_list (K := K) rfl) (by rfl) T.b_list (by decide +kernel) (pa_cons (pv 1) pa_nil)))
    (pss_cons (ps_set (i := 3) sc.nd rfl (Or.inl rfl) (pe_lst pa_nil))
    (pss_cons (ps_for PassesOwn.never rfl (pi_range1 (by rfl) T.b_range (pa_cons (pe_callB (k_len (K := K) rfl) (by rfl) T.b_len PySem.boot_len (pa_cons (pv 1) pa_nil)) pa_nil)) (pg_name (i := 4) sc.nd rfl (Or.inl rfl)) (pss_one (ps_expr (pe_bm PySem.F.plainAttrs_list PySem.F.slot_list_append PySem.F.type_list_append mt_append (pv 3) (pa_cons (pe_bm PySem.F.plainAttrs_list PySem.F.slot_list_pop PySem.F.type_list_pop mt_popAt (pv 2) (pa_cons (pe_call (ok_law_draw D T) hr (by rfl) D.law_draw.g D.law_draw.F.kp D.law_draw.b .nil pass0 (pa_cons (pv 0) (pa_cons (pe_callB (k_len (K := K) rfl) (by rfl) T.b_len PySem.boot_len (pa_cons (pv 2) pa_nil)) pa_nil))) pa_nil)) pa_nil)))))
    (pss_one (ps_ret (pv 3)))))), ?_⟩
    walk_at "go"
    refine ⟨p0, _, rfl, .inl hS, fun l nl => ?_⟩
    walk_at "go"
    refine ⟨Nat.zero_le _, fun g ng => ?_⟩
    walk_at "go"
    have lt := hT.ne nl
    have T1 := hT.put (u := .lst (xs.map V.str)) lt.1 lt.2
    have gt := T1.ne ng
    have lg : l ≠ g := ne_of_none upd_same ng
    have T2 := T1.put (u := .lst []) gt.1 gt.2
    have s1 := new_same (o := .lst (xs.map V.str)) nl
    have s2 := new_same (o := .lst []) ng
    have ng0 : H g = none := s1.free ng
    have lm : (xs.map V.str).length = xs.length := List.length_map ..
    refine l_lenL ((s1.trans s2).seq hS) ?_
    rw [lm]
    refine ⟨_, rfl, by omega, by omega, ?_⟩
    rw [Int.toNat_natCast]
    refine for_range (fun i σ H' => ∃ (ls fs : List Str) (y : Option V), σ = [some (.ref t), some (.ref p0), some (.ref l), some (.ref g), y] ∧ H' l = some (.lst (ls.map V.str)) ∧ H' g = some (.lst (fs.map V.str)) ∧ (fs ++ ls).Perm xs ∧ fs.length = i ∧ Tape H' t a ∧ But t H H')
      ⟨xs, [], none, rfl, by rw [upd_ne lg]; exact upd_same, upd_same, .refl _, rfl, T2, But.new (But.new (But.refl t H) nl) ng0⟩ ?_ ?_
    · rintro i σ H1 hi ⟨ls, fs, y, rfl, hl, hg, pm, fl, T3, B3⟩
      have len := pm.length_eq
      rw [List.length_append] at len
      have ll : (ls.map V.str).length = ls.length := List.length_map ..
      have room : (fs.map V.str).length < sizeLine := fits_lt (by rw [List.length_map]; omega)
      walk_at "go"
      refine ⟨t, a, _, rfl, T3, by rw [ll]; omega, fun n H2 n0 n1 T4 B4 => ?_⟩
      have hl2 := B4 l _ lt.1 hl
      have hg2 := B4 g _ gt.1 hg
      rw [ll] at n1
      obtain ⟨z, hz⟩ : ∃ z, ls[n.toNat]? = some z := ⟨_, List.getElem?_eq_getElem (by omega)⟩
      refine ⟨l, _, n, n.toNat, .str z, rfl, rfl, hl2, by omega, by omega, seqIx n0 (by rw [ll]; omega), by rw [List.getElem?_map, hz]; rfl, ?_⟩
      walk_at "go"
      have gl : g ≠ l := lg.symm
      refine ⟨ls.eraseIdx n.toNat, fs ++ [z], _, rfl, by rw [upd_ne lg, upd_same, map_erase], by rw [upd_same, List.map_append]; rfl, ?_, by rw [List.length_append, fl]; rfl, (T4.put lt.1 lt.2).put gt.1 gt.2, But.new (But.new (B3.trans B4) nl) ng0⟩
      rw [List.append_assoc]
      exact (List.Perm.append_left fs (erase_perm hz)).trans pm
    · rintro σ H1 ⟨ls, fs, y, rfl, hl, hg, pm, fl, T3, B3⟩
      walk_at "go"
      show Q _ _
      have len := pm.length_eq
      rw [List.length_append] at len
      have e : ls = [] := List.eq_nil_of_length_eq_zero (by omega)
      rw [e, List.append_nil] at pm
      exact q fs g H1 pm B3 ng0 gt.1 hg T3
end
end K06
namespace K06
open PySem PySem.Spec PyProof.Rows L2 Tq
section
variable {P : Program} {w : World} {K : PySem.W.Frag} {mg : Str → Option Value} {base : Heap}
def spCells (K : PySem.W.Frag) : Sp := fun vs H Q _ => ∃ (v0 : V) (R : List CRow), vs = [v0] ∧ Dp K H v0 (recD R) ∧ celN R ≤ 1000 ∧
  ∀ (d : Addr) (H' : Hp), Same H H' → H d = none → H' d = some (.lst ((recT R).map V.str)) → Q (.ref d) H'

theorem ok_law_cells (D : Ds K mg) (T : Txt mg) : FnOk P w K mg base CX0 1 D.law_cells.f D.law_cells.fd ["record"] (spCells K) := by
  have sc := sc_law_cells
  refine D.law_cells.F.ok sc (fun vs H Q E h => ?_) (fun cdv A outer s H vs Q E hr h => ?_)
  · obtain ⟨v0, R, rfl, _⟩ := h
    rfl
  · obtain ⟨v0, R, rfl, hR, rl, q⟩ := h
    refine ⟨_, (pss_cons (ps_set (i := 1) sc.nd rfl (Or.inl rfl) (pe_lst pa_nil))
    (pss_cons (ps_for PassesOwn.never rfl (k_piT (K := K) rfl (pv 0)) (pg_name (i := 2) sc.nd rfl (Or.inl rfl)) (pss_one (ps_if (pt_cmpR o_notN (pv 2) pe_non (nomark _)) (pss_one (ps_set (i := 1) sc.nd rfl (Or.inl rfl) (pe_op op_cat (pv 1) (pe_lc (own := [("cell", 3)]) rfl sc.nd (k_piT (K := K) rfl (pv 2)) (blkOk_by (N := ["record", "found", "row", "cell"]) (sc := defScope s_law_cells) (by decide +kernel)) (fun _ _ _ _ _ => (pg_name (i := 3) sc.nd rfl (Or.inl rfl))) (fun _ _ _ _ _ => pts_one (pt_val (pe_callB (k_isi (K := K) rfl) (by rfl) T.b_isinstance (by decide +kernel) (pa_cons (pv 3) (pa_cons (pe_bltn (v := .ty "str") (by rfl) T.b_str (by decide +kernel) rfl) pa_nil))))) (fun _ _ _ _ _ => (pv 3)))))) pss_nil)))
    (pss_one (ps_ret (pv 1))))), ?_⟩
    obtain ⟨p, xs, rfl, hS, hA⟩ := dp_tup hR
    walk_at "go"
    refine ⟨Nat.zero_le _, fun d nd => ?_⟩
    walk_at "go"
    refine ⟨p, rfl, ⟨xs, (new_same nd).seqT hS⟩, for_tup (xs := xs) (fun i σ H' => ∃ (e : Addr) (y1 : Option V), σ = [some (.ref p), some (.ref e), y1, none] ∧ H' e = some (.lst ((recT (R.take i)).map V.str)) ∧ Same H H' ∧ H e = none) ⟨d, none, rfl, upd_same, new_same nd, nd⟩ ?_ ?_ ?_⟩
    · rintro i σ H1 _ ⟨e, y1, rfl, he, S1, ne⟩
      exact S1.seqT hS
    · rintro i x σ H1 hx ⟨e, y1, rfl, he, S1, ne⟩
      obtain ⟨dr, hdr, hrow⟩ := hA.at hx
      rw [List.getElem?_map] at hdr
      obtain ⟨r, hr0, rfl⟩ := Option.map_eq_some_iff.mp hdr
      have tk := take_rowT hr0
      have hrow1 := Dp.keep (TK.of_same S1) _ _ (row_pu r) hrow
      walk_at "go"
      cases r with
      | none =>
        rw [dp_none hrow1]
        walk_at "go"
        rw [decide_eq_true rfl]
        walk_at "go"
        exact ⟨e, _, rfl, by rw [tk]; simpa [rowT] using he, S1, ne⟩
      | some cs =>
        obtain ⟨p2, ys, rfl, hS2, hA2⟩ := dp_tup hrow1
        rw [decide_eq_false (fun h => nomatch h)]
        walk_at "go"
        refine ⟨p2, rfl, ⟨ys, hS2⟩, fun g ng => lc_tup (xs := ys) (fun j H' => H' = upd H1 g (.lst (((cs.take j).filterMap Cel.txt?).map V.str))) rfl (fun j H' _ e1 => ?_) ?_ ?_⟩
        · subst e1
          exact (new_same ng).seqT hS2
        · rintro j y H' hy rfl
          obtain ⟨dc, hdc, hc⟩ := hA2.at hy
          rw [List.getElem?_map] at hdc
          obtain ⟨c, hc0, rfl⟩ := Option.map_eq_some_iff.mp hdc
          have tk2 := take_ts hc0
          have jl : j < cs.length := (List.getElem?_eq_some_iff.mp hc0).1
          have few : (((cs.take j).filterMap Cel.txt?).map V.str).length < sizeLine := by
            rw [List.length_map]
            refine fits_lt (Nat.lt_of_le_of_lt (List.length_filterMap_le ..) ?_)
            rw [List.length_take]
            have := celN_row hr0
            omega
          have hc1 := Dp.keep (TK.new (o := .lst (((cs.take j).filterMap Cel.txt?).map V.str)) ng) _ _ (cel_pu c) hc
          walk_at "go"
          refine ⟨rfl, ?_⟩
          walk_at "go"
          refine l_isCel hc1 ?_
          walk_at "go"
          cases c with
          | null =>
            refine l_ifF ?_
            rw [tk2]; simp [Cel.ts]
          | val n =>
            refine l_ifF ?_
            rw [tk2]; simp [Cel.ts]
          | txt z =>
            rw [dp_str hc1]
            refine l_ifT ?_
            walk_at "go"
            refine ⟨_, upd_same, few, ?_⟩
            rw [upd_upd, tk2, List.map_append]; rfl
        · rintro H' rfl
          have el : ys.length = cs.length := by rw [hA2.len, List.length_map]
          have eg : e ≠ g := fun h => by rw [h] at he; rw [he] at ng; cases ng
          refine l_cat (by rw [upd_ne eg]; exact he) upd_same ?_ fun h nh => ?_
          · rw [List.length_map, List.length_map]
            have a1 := recT_len (R.take i)
            have a2 := celN_take R i
            have a3 : ((cs.take ys.length).filterMap Cel.txt?).length ≤ cs.length := Nat.le_trans (List.length_filterMap_le ..) (by rw [List.length_take]; omega)
            have := celN_row hr0
            exact fits (by omega)
          walk_at "go"
          refine ⟨h, _, rfl, ?_, (S1.trans (new_same ng)).trans (new_same nh), (S1.trans (new_same ng)).free nh⟩
          rw [upd_same, tk, List.map_append]
          have : rowT (some cs) = (cs.take ys.length).filterMap Cel.txt? := by
            rw [el, List.take_length]; rfl
          rw [this]
    · rintro σ H1 ⟨e, y1, rfl, he, S1, ne⟩
      walk_at "go"
      show Q _ _
      have el : xs.length = R.length := by rw [hA.len, List.length_map]
      rw [el, List.take_length] at he
      exact q e H1 S1 ne he
end
end K06
namespace K06
open PySem PySem.Spec PyProof.Rows L2 Tq
section
variable {P : Program} {w : World} {K : PySem.W.Frag} {mg : Str → Option Value} {base : Heap}
def spLFree (K : PySem.W.Frag) : Sp := fun vs H Q _ => ∃ (v0 : V) (R : List CRow) (p0 : Addr) (fx : List Str), vs = [v0, .ref p0] ∧ Dp K H v0 (recD R) ∧ celN R ≤ 1000 ∧ Sq K H p0 (fx.map V.str) ∧
  ∀ (d : Addr) (H' : Hp), Same H H' → H d = none → H' d = some (.lst ((freeT fx R).map V.str)) → Q (.ref d) H'

theorem ok_law_free (D : Ds K mg) (T : Txt mg) : FnOk P w K mg base CX0 2 D.law_free.f D.law_free.fd ["record", "constants"] (spLFree K) := by
  have sc := sc_law_free
  refine D.law_free.F.ok sc (fun vs H Q E h => ?_) (fun cdv A outer s H vs Q E hr h => ?_)
  · obtain ⟨v0, R, p0, fx, rfl, _⟩ := h
    rfl
  · obtain ⟨v0, R, p0, fx, rfl, hR, rl, hq, q⟩ := h
    refine ⟨_, (pss_cons (ps_set (i := 2) sc.nd rfl (Or.inl rfl) (pe_lst pa_nil))
    (pss_cons (ps_for PassesOwn.never rfl (k_piL (K := K) rfl (pe_call (ok_law_cells D T) hr (by rfl) D.law_cells.g D.law_cells.F.kp D.law_cells.b .nil pass0 (pa_cons (pv 0) pa_nil))) (pg_name (i := 3) sc.nd rfl (Or.inl rfl)) (pss_one (ps_if (PW.pt (pw_and (pt_cmpR (k_notIn (K := K) rfl) (pv 3) (pv 2) (by rfl)) (pw_and1 (pt_cmpR (k_notIn (K := K) rfl) (pv 3) (pv 1) (by rfl))))) (pss_one (ps_expr (pe_bm PySem.F.plainAttrs_list PySem.F.slot_list_append PySem.F.type_list_append mt_append (pv 2) (pa_cons (pv 3) pa_nil)))) pss_nil)))
    (pss_one (ps_ret (pv 2))))), ?_⟩
    walk_at "go"
    refine ⟨Nat.zero_le _, fun d nd => ?_⟩
    walk_at "go"
    have s1 := new_same (o := .lst []) nd
    refine ⟨v0, R, rfl, Dp.keep (TK.of_same s1) _ _ (rec_pu R) hR, rl, fun e H1 S1 ne he => ?_⟩
    have de : d ≠ e := fun h => by rw [← h, upd_same] at ne; cases ne
    have S2 := s1.trans S1
    have hq1 := hq.same S2
    refine ⟨e, rfl, ⟨_, sqL he⟩, for_list (xs := (recT R).map V.str) (fun i σ H' => ∃ (y : Option V) (acc : List Str), σ = [some v0, some (.ref p0), some (.ref d), y] ∧ acc = ((recT R).take i).foldl (tstep fx) [] ∧ H' = upd H1 d (.lst (acc.map V.str))) ⟨none, [], rfl, rfl, ?_⟩ ?_ ?_ ?_⟩
    · funext b
      unfold L2.upd
      split
      · rename_i h
        rw [h, S1 d _ upd_same]; rfl
      · rfl
    · rintro i σ H' _ ⟨y, acc, rfl, _, rfl⟩
      exact sqL (by rw [upd_ne de.symm]; exact he)
    · rintro i x σ H' hx ⟨y, acc, rfl, ea, rfl⟩
      rw [List.getElem?_map] at hx
      obtain ⟨z, hz, rfl⟩ := Option.map_eq_some_iff.mp hx
      have tk : ((recT R).take (i + 1)).foldl (tstep fx) [] = tstep fx acc z := by
        rw [List.take_add_one, hz, List.foldl_append, ← ea]; rfl
      have al : acc.length ≤ 1000 := by
        rw [ea]
        have a1 := tfold_len (fx := fx) ((recT R).take i) []
        have a2 := recT_len R
        rw [List.length_take] at a1
        simp at a1
        omega
      have room : (acc.map V.str).length < sizeLine := fits_lt (by rw [List.length_map]; omega)
      have hqd : Sq K (upd H1 d (.lst (acc.map V.str))) p0 (fx.map V.str) := by
        refine hq.but0 (d := d) ?_ nd
        intro b o nb hb
        rw [upd_ne nb]
        exact S2 b o hb
      walk_at "go"
      refine l_in (.inl (sqL upd_same)) ?_
      walk_at "go"
      refine l_ifN (fun c1 => ?_) (fun c1 => ?_)
      · walk_at "go"
        refine l_in hqd ?_
        walk_at "go"
        refine l_ifN (fun c2 => ?_) (fun c2 => ?_)
        · walk_at "go"
          refine ⟨_, acc ++ [z], rfl, ?_, by rw [upd_upd, List.map_append]; rfl⟩
          rw [tk]; unfold tstep step1; rw [if_neg c2, if_neg c1]
        · walk_at "go"
          refine ⟨_, acc, rfl, ?_, rfl⟩
          rw [tk]; unfold tstep; rw [if_pos c2]
      · walk_at "go"
        refine ⟨_, acc, rfl, ?_, rfl⟩
        rw [tk]; unfold tstep step1; rw [if_pos c1]; split <;> rfl
    · rintro σ H' ⟨y, acc, rfl, ea, rfl⟩
      walk_at "go"
      show Q _ _
      rw [List.length_map, List.take_length, ← freeT_eq] at ea
      refine q d _ ?_ nd (by rw [upd_same, ea])
      intro b o hb
      rw [upd_ne (ne_of_none hb nd)]
      exact S2 b o hb
end
end K06
namespace K06
open PySem PySem.Spec PyProof.Rows L2 Tq
section
variable {P : Program} {w : World} {K : PySem.W.Frag} {mg : Str → Option Value} {base : Heap}
def spSamp (K : PySem.W.Frag) : Sp := fun vs H Q _ => ∃ (n : Int) (p0 : Addr) (xs : List Str), vs = [.ref p0, .int n] ∧ 0 ≤ n ∧ n ≤ 1000 ∧ SqT K H p0 (xs.map V.str) ∧ xs.length ≤ 1000 ∧
  ∀ (d : Addr) (H' : Hp), Same H H' → H d = none → H' d = some (.lst ((firstN "v" n.toNat xs).map V.str)) → Q (.ref d) H'

theorem ok_law_samples (D : Ds K mg) (T : Txt mg) : FnOk P w K mg base CX0 1 D.law_samples.f D.law_samples.fd ["constants", "many"] (spSamp K) := by
  have sc := sc_law_samples
  refine D.law_samples.F.ok sc (fun vs H Q E h => ?_) (fun cdv A outer s H vs Q E hr h => ?_)
  · obtain ⟨n, p0, xs, rfl, _⟩ := h
    rfl
  · obtain ⟨n, p0, xs, rfl, n0, n1, hS, xl, q⟩ := h
    refine ⟨_, (pss_cons (ps_set (i := 2) sc.nd rfl (Or.inl rfl) (pe_lst pa_nil))
    (pss_cons (ps_for PassesOwn.never rfl (pi_range2 (by rfl) T.b_range (pa_cons pe_int (pa_cons (pe_op o_add (pe_op o_add (pv 1) (pe_callB (k_len (K := K) rfl) (by rfl) T.b_len PySem.boot_len (pa_cons (pv 0) pa_nil))) pe_int) pa_nil))) (pg_name (i := 3) sc.nd rfl (Or.inl rfl)) (pss_cons (ps_set (i := 4) sc.nd rfl (Or.inl rfl) (pe_op o_addS pe_str (pe_callTy c_str (by rfl) T.b_str (by decide +kernel) (pa_cons (pv 3) pa_nil))))
    (pss_one (ps_if (PW.pt (pw_and (pt_cmpR (k_notIn (K := K) rfl) (pv 4) (pv 0) (by rfl)) (pw_and1 (pt_cmpR o_lt (pe_callB (k_len (K := K) rfl) (by rfl) T.b_len PySem.boot_len (pa_cons (pv 2) pa_nil)) (pv 1) (nomark _))))) (pss_one (ps_expr (pe_bm PySem.F.plainAttrs_list PySem.F.slot_list_append PySem.F.type_list_append mt_append (pv 2) (pa_cons (pv 4) pa_nil)))) pss_nil))))
    (pss_one (ps_ret (pv 2))))), ?_⟩
    obtain ⟨vS, hv⟩ : ∃ vS : Str, vS = "v" := ⟨_, rfl⟩
    have z12 : vS.length ≤ 12 := by rw [hv]; decide
    rw [← hv] at q
    walk_at "go"
    refine ⟨Nat.zero_le _, fun d nd => ?_⟩
    have hS1 := (new_same (o := .lst []) nd).seqT hS
    walk_at "go"
    have lm : (xs.map V.str).length = xs.length := List.length_map ..
    refine ⟨1, n + ↑(xs.map V.str).length + 1, rfl, ⟨by decide, by decide, by omega, by omega⟩, ?_⟩
    rw [lm, show (n + (xs.length : Int) + 1 - 1).toNat = n.toNat + xs.length by omega]
    refine for_range (fun i σ H' => ∃ (y1 y2 : Option V), σ = [some (.ref p0), some (.int n), some (.ref d), y1, y2] ∧ Same H H' ∧ H' d = some (.lst (((named vS xs i).take n.toNat).map V.str))) ⟨none, none, rfl, new_same nd, by rw [upd_same]; simp [named]⟩ ?_ ?_
    · rintro i σ H' hi ⟨y1, y2, rfl, sm, hd⟩
      have k1 : (1 + (i : Int)) = ((i + 1 : Nat) : Int) := by omega
      have ln : (Str.ofString (toString ((i + 1 : Nat) : Int))).length ≤ 5 := numS_len (k := i + 1) (by omega)
      walk_at "go"
      refine l_str (log_small (by omega) (by omega)) ?_
      walk_at "go"
      rw [k1, show (Str.ofString "v") = vS from hv.symm]
      refine l_addS (fits (by omega)) ?_
      walk_at "go"
      rw [nm_def]
      refine l_in (.inr (sm.seqT hS)) ?_
      walk_at "go"
      have ts := take_step vS xs n.toNat i
      have lt : (((named vS xs i).take n.toNat).map V.str).length = ((named vS xs i).take n.toNat).length := List.length_map ..
      refine l_ifN (fun c1 => ?_) (fun c1 => ?_)
      · walk_at "go"
        refine l_if (fun c2 => ?_) (fun c2 => ?_)
        · rw [lt] at c2
          rw [if_pos ⟨c1, by omega⟩] at ts
          have room : (((named vS xs i).take n.toNat).map V.str).length < sizeLine := fits_lt (by rw [lt]; omega)
          walk_at "go"
          refine ⟨_, _, rfl, ?_, by rw [upd_same, ts, List.map_append]; rfl⟩
          intro b o hb
          rw [upd_ne (ne_of_none hb nd)]
          exact sm b o hb
        · rw [lt] at c2
          rw [if_neg (fun h => c2 (by have := h.2; omega))] at ts
          walk_at "go"
          exact ⟨_, _, rfl, sm, by rw [ts]; exact hd⟩
      · rw [if_neg (fun h => h.1 c1)] at ts
        walk_at "go"
        exact ⟨_, _, rfl, sm, by rw [ts]; exact hd⟩
    · rintro σ H' ⟨y1, y2, rfl, sm, hd⟩
      walk_at "go"
      show Q _ _
      exact q d _ sm nd hd
end
end K06
namespace K06
open PySem PySem.Spec PyProof.Rows L2 Tq
section
variable {P : Program} {w : World} {K : PySem.W.Frag} {mg : Str → Option Value} {base : Heap}
def spLRen (K : PySem.W.Frag) : Sp := fun vs H Q _ => ∃ (v0 : V) (R : List CRow) (d : Addr) (prs : List (Str × Str)), vs = [v0, .ref d] ∧ Dp K H v0 (recD R) ∧ H d = some (.dK (dicT prs)) ∧ celN R ≤ 1000 ∧ R.length ≤ 1000 ∧
  ∀ (v : V) (H' : Hp), Same H H' → Dp K H' v (recD (recSub (look prs) R)) → Q v H'

theorem ok_law_renamed (D : Ds K mg) (T : Txt mg) : FnOk P w K mg base CX0 1 D.law_renamed.f D.law_renamed.fd ["record", "changes"] (spLRen K) := by
  have sc := sc_law_renamed
  refine D.law_renamed.F.ok sc (fun vs H Q E h => ?_) (fun cdv A outer s H vs Q E hr h => ?_)
  · obtain ⟨v0, R, d, prs, rfl, _⟩ := h
    rfl
  · obtain ⟨v0, R, d, prs, rfl, hR, hd, rl, rn, q⟩ := h
    refine ⟨_, (pss_cons (ps_set (i := 2) sc.nd rfl (Or.inl rfl) (pe_lst pa_nil))
    (pss_cons (ps_for PassesOwn.never rfl (k_piT (K := K) rfl (pv 0)) (pg_name (i := 3) sc.nd rfl (Or.inl rfl)) (pss_one (ps_if (pt_cmpR o_isN (pv 3) pe_non (nomark _)) (pss_one (ps_expr (pe_bm PySem.F.plainAttrs_list PySem.F.slot_list_append PySem.F.type_list_append mt_append (pv 2) (pa_cons pe_non pa_nil)))) (pss_cons (ps_set (i := 4) sc.nd rfl (Or.inl rfl) (pe_lst pa_nil))
    (pss_cons (ps_for PassesOwn.never rfl (k_piT (K := K) rfl (pv 3)) (pg_name (i := 5) sc.nd rfl (Or.inl rfl)) (pss_one (ps_if (PW.pt (pw_and (pt_val (pe_callB (k_isi (K := K) rfl) (by rfl) T.b_isinstance (by decide +kernel) (pa_cons (pv 5) (pa_cons (pe_bltn (v := .ty "str") (by rfl) T.b_str (by decide +kernel) rfl) pa_nil)))) (pw_and1 (pt_cmp (pc_din (hu_of hr) (pv 5) (pv 1)) (by rfl))))) (pss_one (ps_expr (pe_bm PySem.F.plainAttrs_list PySem.F.slot_list_append PySem.F.type_list_append mt_append (pv 4) (pa_cons (pe_dget (hu_of hr) (pv 1) (pv 5) (fun _ _ => rfl)) pa_nil)))) (pss_one (ps_expr (pe_bm PySem.F.plainAttrs_list PySem.F.slot_list_append PySem.F.type_list_append mt_append (pv 4) (pa_cons (pv 5) pa_nil)))))))
    (pss_one (ps_expr (pe_bm PySem.F.plainAttrs_list PySem.F.slot_list_append PySem.F.type_list_append mt_append (pv 2) (pa_cons (pe_callTy (k_tuple (K := K) rfl) (by rfl) T.b_tuple (by decide +kernel) (pa_cons (pv 4) pa_nil)) pa_nil)))))))))
    (pss_one (ps_ret (pe_callTy (k_tuple (K := K) rfl) (by rfl) T.b_tuple (by decide +kernel) (pa_cons (pv 2) pa_nil)))))), ?_⟩
    obtain ⟨p, xs, rfl, hS, hA⟩ := dp_tup hR
    have el : xs.length = R.length := by rw [hA.len, List.length_map]
    walk_at "go"
    refine ⟨Nat.zero_le _, fun g ng => ?_⟩
    walk_at "go"
    have dg : d ≠ g := ne_of_none hd ng
    refine ⟨p, rfl, ⟨xs, (new_same ng).seqT hS⟩, for_tup (xs := xs) (fun i σ H' => ∃ (us : List V) (y3 y4 y5 : Option V), σ = [some (.ref p), some (.ref d), some (.ref g), y3, y4, y5] ∧ H' g = some (.lst us) ∧ DpAll K H' us (((R.take i).map (rowSub (look prs))).map rowD) ∧ But g H H') ⟨[], none, none, none, rfl, upd_same, .nil, But.upd (But.refl g H)⟩ ?_ ?_ ?_⟩
    · rintro i σ H1 _ ⟨us, y3, y4, y5, rfl, _, _, B⟩
      exact (TK.butN B ng).sq hS
    · rintro i x σ H1 hx ⟨us, y3, y4, y5, rfl, hg, hU, B⟩
      obtain ⟨dr, hdr, hrow⟩ := hA.at hx
      rw [List.getElem?_map] at hdr
      obtain ⟨r, hr0, rfl⟩ := Option.map_eq_some_iff.mp hdr
      have il : i < R.length := (List.getElem?_eq_some_iff.mp hr0).1
      have hrow1 := Dp.keep (TK.butN B ng) _ _ (row_pu r) hrow
      have ul := hU.len
      rw [List.length_map, List.length_map, List.length_take] at ul
      have room : us.length < sizeLine := fits_lt (by omega)
      have hd1 := B d _ dg hd
      have tks : ((R.take (i + 1)).map (rowSub (look prs))).map rowD = ((R.take i).map (rowSub (look prs))).map rowD ++ [rowD (rowSub (look prs) r)] := by
        rw [List.take_add_one, hr0, List.map_append, List.map_append]; rfl
      walk_at "go"
      cases r with
      | none =>
        rw [dp_none hrow1, decide_eq_true rfl]
        walk_at "go"
        refine ⟨us ++ [.non], _, _, _, rfl, upd_same, ?_, But.upd B⟩
        rw [tks]
        exact DpAll.snoc (DpAll.keep (TK.put hg) _ _ (rows_pu _) hU) .non
      | some cs =>
        have cl : cs.length ≤ 1000 := Nat.le_trans (row_le hr0) rl
        obtain ⟨p2, ys, rfl, hS2, hA2⟩ := dp_tup hrow1
        have el2 : ys.length = cs.length := by rw [hA2.len, List.length_map]
        rw [decide_eq_false (fun h => nomatch h)]
        walk_at "go"
        refine ⟨Nat.zero_le _, fun c nc => ?_⟩
        walk_at "go"
        have gc : g ≠ c := ne_of_none hg nc
        have dc : d ≠ c := ne_of_none hd1 nc
        refine ⟨p2, rfl, ⟨ys, (new_same nc).seqT hS2⟩, for_tup (xs := ys) (fun j σ H' => ∃ (ws : List V) (y5 : Option V), σ = [some (.ref p), some (.ref d), some (.ref g), some (.ref p2), some (.ref c), y5] ∧ H' = L2.upd H1 c (.lst ws) ∧ DpAll K H' ws (((cs.take j).map (Cel.sub (look prs))).map Cel.d)) ⟨[], _, rfl, rfl, .nil⟩ ?_ ?_ ?_⟩
        · rintro j σ H2 _ ⟨ws, y5, rfl, rfl, _⟩
          exact (new_same nc).seqT hS2
        · rintro j y σ H2 hy ⟨ws, y5, rfl, rfl, hW⟩
          obtain ⟨dc', hdc, hcl⟩ := hA2.at hy
          rw [List.getElem?_map] at hdc
          obtain ⟨cc, hc0, rfl⟩ := Option.map_eq_some_iff.mp hdc
          have jl : j < cs.length := (List.getElem?_eq_some_iff.mp hc0).1
          have hc1 := Dp.keep (TK.new (o := .lst ws) nc) _ _ (cel_pu cc) hcl
          have hd2 : (L2.upd H1 c (.lst ws)) d = some (.dK (dicT prs)) := by rw [upd_ne dc]; exact hd1
          have wl := hW.len
          rw [List.length_map, List.length_map, List.length_take] at wl
          have room2 : ws.length < sizeLine := fits_lt (by omega)
          have tk2 : ((cs.take (j + 1)).map (Cel.sub (look prs))).map Cel.d = ((cs.take j).map (Cel.sub (look prs))).map Cel.d ++ [(cc.sub (look prs)).d] := by
            rw [List.take_add_one, hc0, List.map_append, List.map_append]; rfl
          have fin : ∀ (w : V) (y5 : Option V), Dp K (L2.upd H1 c (.lst ws)) w (cc.sub (look prs)).d → ∃ (us : List V) (z5 : Option V), [some (V.ref p), some (.ref d), some (.ref g), some (.ref p2), some (.ref c), y5] = [some (.ref p), some (.ref d), some (.ref g), some (.ref p2), some (.ref c), z5] ∧ L2.upd (L2.upd H1 c (.lst ws)) c (.lst (ws ++ [w])) = L2.upd H1 c (.lst us) ∧ DpAll K (L2.upd (L2.upd H1 c (.lst ws)) c (.lst (ws ++ [w]))) us (((cs.take (j + 1)).map (Cel.sub (look prs))).map Cel.d) := by
            intro w y5 hw
            refine ⟨ws ++ [w], y5, rfl, upd_upd, ?_⟩
            rw [tk2]
            exact DpAll.snoc (DpAll.keep (TK.put upd_same) _ _ (cels_pu _) hW) (Dp.keep (TK.put upd_same) _ _ (cel_pu _) hw)
          walk_at "go"
          refine l_isCel hc1 ?_
          walk_at "go"
          cases cc with
          | null =>
            refine l_ifF ?_
            refine l_ifF ?_
            walk_at "go"
            exact fin _ _ hc1
          | val n =>
            refine l_ifF ?_
            refine l_ifF ?_
            walk_at "go"
            exact fin _ _ hc1
          | txt z =>
            have ey := dp_str hc1
            subst ey
            refine l_ifT ?_
            refine l_din0 ?_
            walk_at "go"
            refine ⟨d, _, rfl, dg_at hd2, ?_⟩
            walk_at "go"
            cases e : look prs z with
            | none =>
              refine l_ifF ?_
              walk_at "go"
              exact fin _ _ (by show Dp K _ _ (.str ((look prs z).getD z)); rw [e]; exact .str z)
            | some u =>
              refine l_ifT ?_
              walk_at "go"
              refine l_dg0 ?_
              walk_at "go"
              refine ⟨d, _, rfl, dg_some hd2 e, ?_⟩
              walk_at "go"
              exact fin _ _ (by show Dp K _ _ (.str ((look prs z).getD z)); rw [e]; exact .str u)
        · rintro σ H2 ⟨ws, y5, rfl, rfl, hW⟩
          rw [el2, List.take_length] at hW
          walk_at "go"
          refine l_tupL (sqL upd_same) fun r nr => ?_
          have hg2 : (L2.upd H1 c (.lst ws)) g = some (.lst us) := by rw [upd_ne gc]; exact hg
          have gr : g ≠ r := ne_of_none hg2 nr
          have hg3 := new_same (o := .tup ws) nr _ _ hg2
          walk_at "go"
          refine ⟨us ++ [.ref r], _, _, _, rfl, upd_same, ?_, But.upd (B.trans (Same.but ((new_same nc).trans (new_same nr))))⟩
          rw [tks]
          have k3 : Dp K (L2.upd (L2.upd H1 c (.lst ws)) r (.tup ws)) (.ref r) (rowD (rowSub (look prs) (some cs))) := .tup (sqT upd_same) (DpAll.keep (TK.new nr) _ _ (cels_pu _) hW)
          exact DpAll.snoc (DpAll.keep (((TK.new nc).trans (TK.new nr)).trans (TK.put hg3)) _ _ (rows_pu _) hU) (Dp.keep (TK.put hg3) _ _ (row_pu _) k3)
    · rintro σ H1 ⟨us, y3, y4, y5, rfl, hg, hU, B⟩
      rw [el, List.take_length] at hU
      walk_at "go"
      refine l_tupL (sqL hg) fun r nr => ?_
      show Q _ _
      refine q _ _ (fun b o hb => ?_) (.tup (sqT upd_same) (DpAll.keep (TK.new nr) _ _ (rows_pu _) hU))
      have e1 := B b o (ne_of_none hb ng) hb
      rw [upd_ne (ne_of_none e1 nr)]
      exact e1
end
end K06
namespace K06
open PySem PySem.Spec PyProof.Rows L2 Tq
section
variable {P : Program} {w : World} {K : PySem.W.Frag} {mg : Str → Option Value} {base : Heap}
def spPaired (K : PySem.W.Frag) : Sp := fun vs H Q _ => ∃ (p p2 : Addr) (xs ys : List Str), vs = [.ref p, .ref p2] ∧ SqL K H p (xs.map V.str) ∧ SqL K H p2 (ys.map V.str) ∧ xs.length ≤ ys.length ∧ xs.length ≤ 1000 ∧
  ∀ (d : Addr) (H' : Hp), Same H H' → H d = none → H' d = some (.dK (dicT (xs.zip ys))) → Q (.ref d) H'

theorem ok_law_paired (D : Ds K mg) (T : Txt mg) : FnOk P w K mg base CX0 1 D.law_paired.f D.law_paired.fd ["first", "second"] (spPaired K) := by
  have sc := sc_law_paired
  refine D.law_paired.F.ok sc (fun vs H Q E h => ?_) (fun cdv A outer s H vs Q E hr h => ?_)
  · obtain ⟨p, p2, xs, ys, rfl, _⟩ := h
    rfl
  · obtain ⟨p, p2, xs, ys, rfl, h1, h2, xl, xm, q⟩ := h
    refine ⟨_, (pss_cons (ps_set (i := 2) sc.nd rfl (Or.inl rfl) pe_dnewK)
    (pss_cons (ps_for PassesOwn.never rfl (pi_range1 (by rfl) T.b_range (pa_cons (pe_callB (k_len (K := K) rfl) (by rfl) T.b_len PySem.boot_len (pa_cons (pv 0) pa_nil)) pa_nil)) (pg_name (i := 3) sc.nd rfl (Or.inl rfl)) (pss_one (ps_asg (pe_ix (k_ixL (K := K) rfl) (pv 1) (pv 3) (fun _ _ => rfl)) (pg_sub (pv 2) (pe_ix (k_ixL (K := K) rfl) (pv 0) (pv 3) (fun _ _ => rfl)) (set_dict (hu_of hr))))))
    (pss_one (ps_ret (pv 2))))), ?_⟩
    walk_at "go"
    intro d nd
    walk_at "go"
    have lm : (xs.map V.str).length = xs.length := List.length_map ..
    refine l_lenL ((new_same nd).seq h1) ?_
    rw [lm]
    refine ⟨_, rfl, by omega, by omega, ?_⟩
    rw [Int.toNat_natCast]
    refine for_range (fun i σ H' => ∃ y : Option V, σ = [some (.ref p), some (.ref p2), some (.ref d), y] ∧ H' = L2.upd H d (.dK (dicT ((xs.zip ys).take i)))) ⟨none, rfl, rfl⟩ ?_ ?_
    · rintro i σ H' hi ⟨y, rfl, rfl⟩
      have s1 := new_same (o := .dK (dicT ((xs.zip ys).take i))) nd
      obtain ⟨u, hu, hu2⟩ := atI_map (f := V.str) (xs := ys) (i := 0 + (i : Int)) (by omega) (by omega)
      obtain ⟨z, hz, hz2⟩ := atI_map (f := V.str) (xs := xs) (i := 0 + (i : Int)) (by omega) (by omega)
      have ei : (0 + (i : Int)).toNat = i := by omega
      rw [ei] at hu2 hz2
      walk_at "go"
      refine l_ixL (s1.seq h2) hu ?_
      walk_at "go"
      refine l_ixL (s1.seq h1) hz ?_
      have few : ((xs.zip ys).take i).length < sizeLine := by
        rw [List.length_take]; exact fits_lt (by omega)
      refine l_setDS upd_same few ?_
      refine ⟨_, rfl, ?_⟩
      have ez : (xs.zip ys)[i]? = some (z, u) := List.getElem?_zip_eq_some.mpr ⟨hz2, hu2⟩
      rw [upd_upd, List.take_add_one, ez]; rfl
    · rintro σ H' ⟨y, rfl, rfl⟩
      walk_at "go"
      show Q _ _
      have e : (xs.zip ys).take xs.length = xs.zip ys := List.take_of_length_le (by rw [List.length_zip]; omega)
      rw [e]
      exact q d _ (new_same nd) nd upd_same
end
end K06
namespace K06
open PySem PySem.Spec PyProof.Rows L2 Tq
section
variable {P : Program} {w : World} {K : PySem.W.Frag} {mg : Str → Option Value} {base : Heap}
def spKnown (K : PySem.W.Frag) : Sp := fun vs H Q _ => ∃ (t a : Addr) (m : Int), vs = [.ref t, .int m] ∧ Tape H t a ∧ 0 ≤ m ∧ m ≤ 40 ∧
  ∀ (xs : List Str) (p : Addr) (H' : Hp), But t H H' → H p = none → H' p = some (.tup (xs.map V.str)) → Tape H' t a → Up xs → (∀ z ∈ xs, IsText z) → xs.length ≤ m.toNat → Q (.ref p) H'

theorem ok_law_known (D : Ds K mg) (T : Txt mg) : FnOk P w K mg base CX0 3 D.law_known.f D.law_known.fd ["tape", "most"] (spKnown K) := by
  have sc := sc_law_known
  refine D.law_known.F.ok sc (fun vs H Q E h => ?_) (fun cdv A outer s H vs Q E hr h => ?_)
  · obtain ⟨t, a, m, rfl, _⟩ := h
    rfl
  · obtain ⟨t, a, m, rfl, hT, m0, m1, q⟩ := h
    refine ⟨_, (pss_cons (ps_set (i := 2) sc.nd rfl (Or.inl rfl) (pe_lst pa_nil))
    (pss_cons (ps_for PassesOwn.never rfl (pi_range1 (by rfl) T.b_range (pa_cons (pe_call (ok_law_draw D T) (hr.mono (by decide)) (by rfl) D.law_draw.g D.law_draw.F.kp D.law_draw.b .nil pass0 (pa_cons (pv 0) (pa_cons (pe_op o_add (pv 1) pe_int) pa_nil))) pa_nil)) (pg_name (i := 3) sc.nd rfl (Or.inl rfl)) (pss_cons (ps_set (i := 4) sc.nd rfl (Or.inl rfl) (pe_call (ok_law_draw D T) (hr.mono (by decide)) (by rfl) D.law_draw.g D.law_draw.F.kp D.law_draw.b .nil pass0 (pa_cons (pv 0) (pa_cons pe_int pa_nil))))
    (pss_cons (ps_set (i := 5) sc.nd rfl (Or.inl rfl) (pe_op o_addS (pe_ix (k_ixL (K := K) rfl) (pe_lst (pa_cons pe_str (pa_cons pe_str pa_nil))) (pe_op o_mod (pe_callTy c_int (by rfl) T.b_int (by decide +kernel) (pa_cons (pv 4) pa_nil)) pe_int) (fun _ _ => rfl)) (pe_callTy c_str (by rfl) T.b_str (by decide +kernel) (pa_cons (pe_op o_add pe_int (pe_callTy c_int (by rfl) T.b_int (by decide +kernel) (pa_cons (pe_op o_div (pv 4) pe_int) pa_nil))) pa_nil))))
    (pss_cons (ps_if (pt_cmpR op_eq (pe_op o_mod (pe_callTy c_int (by rfl) T.b_int (by decide +kernel) (pa_cons (pe_op o_div (pv 4) pe_int) pa_nil)) pe_int) pe_int (nomark _)) (pss_one (ps_set (i := 5) sc.nd rfl (Or.inl rfl) (pe_call (ok_law_text D T) hr (by rfl) D.law_text.g D.law_text.F.kp D.law_text.b .nil pass0 (pa_cons (pv 0) pa_nil)))) pss_nil)
    (pss_one (ps_if (pt_cmpR (k_notIn (K := K) rfl) (pv 5) (pv 2) (by rfl)) (pss_one (ps_expr (pe_bm PySem.F.plainAttrs_list PySem.F.slot_list_append PySem.F.type_list_append mt_append (pv 2) (pa_cons (pv 5) pa_nil)))) pss_nil))))))
    (pss_one (ps_ret (pe_callTy (k_tuple (K := K) rfl) (by rfl) T.b_tuple (by decide +kernel) (pa_cons (pe_callB (k_sortedL (K := K) rfl) (by rfl) T.b_sorted (by decide +kernel) (pa_cons (pv 2) pa_nil)) pa_nil)))))), ?_⟩
    walk_at "go"
    refine ⟨Nat.zero_le _, fun d nd => ?_⟩
    walk_at "go"
    have dt := hT.ne nd
    refine ⟨t, a, _, rfl, hT.put dt.1 dt.2, by omega, fun n H1 n0 n1 T1 B1 => ?_⟩
    have hd1 : H1 d = some (.lst (([] : List Str).map V.str)) := B1 d _ dt.1 upd_same
    refine ⟨n, rfl, by omega, by omega, ?_⟩
    have nm : n.toNat ≤ m.toNat := by omega
    generalize n.toNat = N at nm
    refine for_range (fun i σ H' => ∃ (xs : List Str) (y1 y2 y3 : Option V), σ = [some (.ref t), some (.int m), some (.ref d), y1, y2, y3] ∧ xs.length ≤ i ∧ (∀ z ∈ xs, IsText z) ∧ xs.Nodup ∧ H' d = some (.lst (xs.map V.str)) ∧ Tape H' t a ∧ But t H H')
      ⟨[], none, none, none, rfl, Nat.le_refl _, by simp, List.nodup_nil, hd1, T1, (But.new (But.refl t H) nd).trans B1⟩ ?_ ?_
    · rintro i σ H2 hi ⟨xs, y1, y2, y3, rfl, xl, xt, xn, hd, T2, B2⟩
      walk_at "go"
      refine ⟨t, a, 56, rfl, T2, by decide, fun n2 H3 k0 k1 T3 B3 => ?_⟩
      have hd3 := B3 d _ dt.1 hd
      walk_at "go"
      refine ⟨(by show 2 ≤ sizeLine; decide), fun p np => ?_⟩
      have r2 := fmod_lt k0 (show (0 : Int) < 2 by decide)
      have q4 := fdiv_nn k0 (show (0 : Int) < 4 by decide)
      have q4' : n2.fdiv 4 ≤ 56 := by
        rw [Int.fdiv_eq_ediv_of_nonneg _ (by decide)]
        omega
      obtain ⟨z, hz, hz2⟩ := atI_map (f := V.str) (xs := ["v", "c"]) r2.1 r2.2
      have zo : z = "v" ∨ z = "c" := by simpa using List.mem_of_getElem? hz2
      have pt := T3.ne np
      have T4 : Tape (L2.upd H3 p (.lst [.str "v", .str "c"])) t a := T3.put pt.1 pt.2
      have hd4 : (L2.upd H3 p (.lst [.str "v", .str "c"])) d = some (.lst (xs.map V.str)) := by
        rw [upd_ne (ne_of_none hd3 np)]; exact hd3
      have B4 : But t H (L2.upd H3 p (.lst [.str "v", .str "c"])) := (B2.trans B3).trans (Same.but (new_same np))
      walk_at "go"
      generalize L2.upd H3 p (.lst [.str "v", .str "c"]) = H4 at T4 hd4 B4 ⊢
      have k1 : (1 + n2.fdiv 4) = (((n2.fdiv 4).toNat + 1 : Nat) : Int) := by omega
      refine l_str (log_small (by omega) (by omega)) ?_
      walk_at "go"
      rw [k1]
      have ln : (Str.ofString (toString (((n2.fdiv 4).toNat + 1 : Nat) : Int))).length ≤ 5 := numS_len (k := (n2.fdiv 4).toNat + 1) (by omega)
      have z1 : z.length = 1 := by rcases zo with e | e <;> rw [e] <;> rfl
      refine l_addS (fits (by omega)) ?_
      have ln2 : (numS ((n2.fdiv 4).toNat + 1)).length ≤ 5 := ln
      have hv : ∀ c ∈ (Str.ofString "v").cps.toList, c = 118 := by decide +kernel
      have hc' : ∀ c ∈ (Str.ofString "c").cps.toList, c = 99 := by decide +kernel
      have tx : IsText (z ++ numS ((n2.fdiv 4).toNat + 1)) := by
        refine ⟨by rw [app_len]; omega, fun c hc => ?_⟩
        rw [app_list, List.mem_append] at hc
        rcases hc with hc | hc
        · rcases zo with e | e
          · rw [e] at hc
            have := hv c hc
            omega
          · rw [e] at hc
            have := hc' c hc
            omega
        · have := numS_ok _ c hc
          omega
      generalize z ++ numS ((n2.fdiv 4).toNat + 1) = w1 at tx ⊢
      have room : (xs.map V.str).length < sizeLine := fits_lt (by rw [List.length_map]; omega)
      refine l_gname ?_
      with_reducible refine' l_cut (fun σ' H' => ∃ (u : Str) (y1 y2 : Option V), σ' = [some (.ref t), some (.int m), some (.ref d), y1, y2, some (.str u)] ∧ IsText u ∧ Tape H' t a ∧ H' d = some (.lst (xs.map V.str)) ∧ But t H H') (fun N hN => ?_) ?_
      · walk_at "go"
        refine l_if (fun c1 => ?_) (fun c1 => ?_)
        · walk_at "go"
          refine ⟨t, a, rfl, T4, fun u H5 tu T5 B5 => ?_⟩
          walk_at "go"
          exact hN _ _ ⟨u, _, _, rfl, tu, T5, B5 d _ dt.1 hd4, B4.trans B5⟩
        · walk_at "go"
          exact hN _ _ ⟨w1, _, _, rfl, tx, T4, hd4, B4⟩
      · rintro σ' H5 ⟨u, y1, y2, rfl, tu, T5, hd5, B5⟩
        walk_at "go"
        refine l_in (.inl (sqL hd5)) ?_
        walk_at "go"
        refine l_ifN (fun c2 => ?_) (fun c2 => ?_)
        · walk_at "go"
          refine ⟨xs ++ [u], _, _, _, rfl, by rw [List.length_append, List.length_singleton]; omega, ?_, ?_, by rw [upd_same, List.map_append]; rfl, T5.put dt.1 dt.2, ?_⟩
          · intro y hy
            rcases List.mem_append.mp hy with hy | hy
            · exact xt y hy
            · rw [List.mem_singleton.mp hy]; exact tu
          · rw [List.nodup_append]
            exact ⟨xn, by simp, fun y hy w hw e => c2 (by rw [List.mem_singleton.mp hw] at e; exact e ▸ hy)⟩
          · intro b o nb hb
            rw [upd_ne (ne_of_none hb nd)]
            exact B5 b o nb hb
        · walk_at "go"
          exact ⟨xs, _, _, _, rfl, by omega, xt, xn, hd5, T5, B5⟩
    · rintro σ H2 ⟨xs, y1, y2, y3, rfl, xl, xt, xn, hd, T2, B2⟩
      walk_at "go"
      refine ⟨d, xs, rfl, sqL hd, by omega, fun ys p pm so np => ?_⟩
      walk_at "go"
      refine l_tupL (sqL upd_same) fun r nr => ?_
      show Q _ _
      have pt := T2.ne np
      have T3 : Tape (L2.upd H2 p (.lst (ys.map V.str))) t a := T2.put pt.1 pt.2
      have rt := T3.ne nr
      have B3 := (B2.trans (Same.but (new_same (o := .lst (ys.map V.str)) np))).trans (Same.but (new_same (o := .tup (ys.map V.str)) nr))
      have hr0 : H r = none := by
        cases e : H r with
        | none => rfl
        | some o =>
          have e2 := (B2.trans (Same.but (new_same (o := .lst (ys.map V.str)) np))) r o rt.1 e
          rw [e2] at nr; cases nr
      exact q ys r _ B3 hr0 upd_same (T3.put rt.1 rt.2) (up_of so (pm.nodup_iff.mpr xn)) (fun z hz => xt z (pm.mem_iff.mp hz)) (by rw [pm.length_eq]; omega)
end
end K06
namespace K06
open PySem PySem.Spec PyProof.Rows L2 Tq
section
variable {P : Program} {w : World} {K : PySem.W.Frag} {mg : Str → Option Value} {base : Heap}
def spWild (K : PySem.W.Frag) : Sp := fun vs H Q _ => ∃ (t a p0 : Addr) (zs : List Str), vs = [.ref t, .ref p0] ∧ Tape H t a ∧ SqL K H p0 (zs.map V.str) ∧ p0 ≠ t ∧ zs ≠ [] ∧ zs.length ≤ 1000 ∧
  ∀ (R : List CRow) (v : V) (H' : Hp), Dp K H' v (recD R) → GoodR zs R → celN R ≤ 24 → (1 ≤ R.length ∧ R.length ≤ 10) → But t H H' → Tape H' t a → Q v H'
/-- the sizes stand -/
def szI (t a p0 : Addr) (sh : Int) (H : Hp) : L2.St → Hp → Prop := fun σ H' => ∃ (d : Addr) (ks : List Int) (y : Option V), σ = [some (.ref t), some (.ref p0), some (.int sh), some (.ref d), y, none, none, none, none, none] ∧ H' d = some (.lst (ks.map V.int)) ∧ H d = none ∧ d ≠ t ∧ (∀ k ∈ ks, 0 ≤ k ∧ k ≤ 24) ∧ ks.sum ≤ 24 ∧ (1 ≤ ks.length ∧ ks.length ≤ 10) ∧ Tape H' t a ∧ But t H H'

theorem ok_law_wild (D : Ds K mg) (T : Txt mg) : FnOk P w K mg base CX0 2 D.law_wild.f D.law_wild.fd ["tape", "texts"] (spWild K) := by
  have sc := sc_law_wild
  refine D.law_wild.F.ok sc (fun vs H Q E h => ?_) (fun cdv A outer s H vs Q E hr h => ?_)
  · obtain ⟨t, a, p0, zs, rfl, _⟩ := h
    rfl
  · obtain ⟨t, a, p0, zs, rfl, hT, hq, pt0, zn, zl, q⟩ := h
    refine ⟨_, (pss_cons (ps_set (i := 2) sc.nd rfl (Or.inl rfl) (pe_call (ok_law_draw D T) hr (by rfl) D.law_draw.g D.law_draw.F.kp D.law_draw.b .nil pass0 (pa_cons (pv 0) (pa_cons pe_int pa_nil))))
    (pss_cons (ps_set (i := 3) sc.nd rfl (Or.inl rfl) (pe_lst pa_nil))
    (pss_cons (ps_for PassesOwn.never rfl (pi_range1 (by rfl) T.b_range (pa_cons (pe_op o_add pe_int (pe_call (ok_law_draw D T) hr (by rfl) D.law_draw.g D.law_draw.F.kp D.law_draw.b .nil pass0 (pa_cons (pv 0) (pa_cons pe_int pa_nil)))) pa_nil)) (pg_name (i := 4) sc.nd rfl (Or.inl rfl)) (pss_one (ps_expr (pe_bm PySem.F.plainAttrs_list PySem.F.slot_list_append PySem.F.type_list_append mt_append (pv 3) (pa_cons (pe_ix (k_ixL (K := K) rfl) (pe_lst (pa_cons pe_int (pa_cons pe_int (pa_cons pe_int (pa_cons pe_int (pa_cons pe_int (pa_cons pe_int pa_nil))))))) (pe_call (ok_law_draw D T) hr (by rfl) D.law_draw.g D.law_draw.F.kp D.law_draw.b .nil pass0 (pa_cons (pv 0) (pa_cons pe_int pa_nil))) (fun _ _ => rfl)) pa_nil)))))
    (pss_cons (ps_if (pt_cmpR op_eq (pv 2) pe_int (nomark _)) (pss_one (ps_set (i := 3) sc.nd rfl (Or.inl rfl) (pe_lst (pa_cons pe_int (pa_cons pe_int (pa_cons pe_int (pa_cons pe_int (pa_cons pe_int (pa_cons pe_int (pa_cons pe_int (pa_cons pe_int (pa_cons pe_int (pa_cons pe_int pa_nil))))))))))))) pss_nil)
    (pss_cons (ps_if (pt_cmpR op_eq (pv 2) pe_int (nomark _)) (pss_one (ps_set (i := 3) sc.nd rfl (Or.inl rfl) (pe_lst (pa_cons pe_int pa_nil)))) pss_nil)
    (pss_cons (ps_set (i := 5) sc.nd rfl (Or.inl rfl) (pe_lst pa_nil))
    (pss_cons (ps_for PassesOwn.never rfl (k_piL (K := K) rfl (pv 3)) (pg_name (i := 6) sc.nd rfl (Or.inl rfl)) (pss_cons (ps_set (i := 7) sc.nd rfl (Or.inl rfl) (pe_lst pa_nil))
    (pss_cons (ps_for PassesOwn.never rfl (pi_range1 (by rfl) T.b_range (pa_cons (pv 6) pa_nil)) (pg_name (i := 4) sc.nd rfl (Or.inl rfl)) (pss_cons (ps_set (i := 8) sc.nd rfl (Or.inl rfl) (pe_call (ok_law_draw D T) hr (by rfl) D.law_draw.g D.law_draw.F.kp D.law_draw.b .nil pass0 (pa_cons (pv 0) (pa_cons (pe_op o_mul pe_int pe_int) pa_nil))))
    (pss_cons (ps_set (i := 9) sc.nd rfl (Or.inl rfl) (pe_ix (k_ixL (K := K) rfl) (pv 1) (pe_op o_mod (pe_callTy c_int (by rfl) T.b_int (by decide +kernel) (pa_cons (pe_op o_div (pv 8) pe_int) pa_nil)) (pe_callB (k_len (K := K) rfl) (by rfl) T.b_len PySem.boot_len (pa_cons (pv 1) pa_nil))) (fun _ _ => rfl)))
    (pss_cons (ps_if (pt_cmpR op_eq (pe_op o_mod (pe_callTy c_int (by rfl) T.b_int (by decide +kernel) (pa_cons (pv 8) pa_nil)) pe_int) pe_int (nomark _)) (pss_one (ps_set (i := 9) sc.nd rfl (Or.inl rfl) pe_non)) pss_nil)
    (pss_cons (ps_if (pt_cmpR op_eq (pe_op o_mod (pe_callTy c_int (by rfl) T.b_int (by decide +kernel) (pa_cons (pv 8) pa_nil)) pe_int) pe_int (nomark _)) (pss_one (ps_set (i := 9) sc.nd rfl (Or.inl rfl) (pe_tup (pa_cons (pe_ix (k_ixL (K := K) rfl) (pe_lst (pa_cons pe_str (pa_cons pe_str (pa_cons pe_str (pa_cons pe_str pa_nil))))) (pe_op o_mod (pe_callTy c_int (by rfl) T.b_int (by decide +kernel) (pa_cons (pe_op o_div (pv 8) pe_int) pa_nil)) pe_int) (fun _ _ => rfl)) pa_nil)))) pss_nil)
    (pss_one (ps_expr (pe_bm PySem.F.plainAttrs_list PySem.F.slot_list_append PySem.F.type_list_append mt_append (pv 7) (pa_cons (pv 9) pa_nil)))))))))
    (pss_one (ps_if (pt_cmpR op_eq (pv 6) pe_int (nomark _)) (pss_one (ps_expr (pe_bm PySem.F.plainAttrs_list PySem.F.slot_list_append PySem.F.type_list_append mt_append (pv 5) (pa_cons pe_non pa_nil)))) (pss_one (ps_expr (pe_bm PySem.F.plainAttrs_list PySem.F.slot_list_append PySem.F.type_list_append mt_append (pv 5) (pa_cons (pe_callTy (k_tuple (K := K) rfl) (by rfl) T.b_tuple (by decide +kernel) (pa_cons (pv 7) pa_nil)) pa_nil)))))))))
    (pss_one (ps_ret (pe_callTy (k_tuple (K := K) rfl) (by rfl) T.b_tuple (by decide +kernel) (pa_cons (pv 5) pa_nil))))))))))), ?_⟩
    have zp : 0 < (zs.map V.str).length := by
      rw [List.length_map]
      exact List.length_pos_iff.mpr zn
    walk_at "go"
    refine ⟨t, a, 12, rfl, hT, by decide, fun sh H1 s0 s1 T1 B1 => ?_⟩
    walk_at "go"
    refine ⟨Nat.zero_le _, fun d nd => ?_⟩
    walk_at "go"
    have dt := T1.ne nd
    have nd0 := B1.free nd dt.1
    refine ⟨t, a, 4, rfl, T1.put dt.1 dt.2, by decide, fun n H2 n0 n1 T2 B2 => ?_⟩
    walk_at "go"
    have hd2 : H2 d = some (.lst []) := B2 d _ dt.1 upd_same
    have B12 : But t H H2 := (But.new B1 nd0).trans B2
    refine ⟨1 + n, rfl, by omega, by omega, for_range (fun i σ H' => ∃ (ks : List Int) (y : Option V), σ = [some (.ref t), some (.ref p0), some (.int sh), some (.ref d), y, none, none, none, none, none] ∧ ks.length = i ∧ (∀ k ∈ ks, 0 ≤ k ∧ k ≤ 4) ∧ H' d = some (.lst (ks.map V.int)) ∧ Tape H' t a ∧ But t H H') ⟨[], none, rfl, rfl, by simp, hd2, T2, B12⟩ ?_ ?_⟩
    · rintro i σ H3 hi ⟨ks, y, rfl, kl, kb, hd, T3, B3⟩
      walk_at "go"
      refine ⟨(by show 6 ≤ sizeLine; decide), fun p np => ?_⟩
      walk_at "go"
      have pt := T3.ne np
      refine ⟨t, a, 6, rfl, T3.put pt.1 pt.2, by decide, fun m H4 m0 m1 T4 B4 => ?_⟩
      have hp4 := B4 p _ pt.1 upd_same
      have hd4 : H4 d = some (.lst (ks.map V.int)) := B4 d _ dt.1 (by rw [upd_ne (ne_of_none hd np)]; exact hd)
      obtain ⟨z, hz, hz2⟩ := atI_map (f := V.int) (xs := [0, 1, 2, 2, 3, 4]) m0 (show m < 6 by omega)
      have zb : 0 ≤ z ∧ z ≤ 4 := by
        have := List.mem_of_getElem? hz2
        simp at this
        omega
      have room : (ks.map V.int).length < sizeLine := fits_lt (by rw [List.length_map]; omega)
      walk_at "go"
      refine ⟨ks ++ [z], _, rfl, by rw [List.length_append, kl]; rfl, fun k hk => ?_, by rw [upd_same, List.map_append]; rfl, T4.put dt.1 dt.2, But.new ((But.new B3 (B3.free np pt.1)).trans B4) nd0⟩
      rcases List.mem_append.mp hk with hk | hk
      · exact kb k hk
      · rw [List.mem_singleton.mp hk]; exact zb
    rintro σ H3 ⟨ks, y, rfl, kl, kb, hd, T3, B3⟩
    have km := sum_le fun k hk => (kb k hk).2
    refine l_nx ?_
    with_reducible refine' l_cut (szI t a p0 sh H) (fun N hN => ?_) ?_
    · walk_at "go"
      refine l_if (fun c1 => ?_) (fun c1 => ?_)
      · walk_at "go"
        refine ⟨(by show 10 ≤ sizeLine; decide), fun p np => ?_⟩
        walk_at "go"
        have pt := T3.ne np
        refine hN _ _ ⟨p, [2, 0, 1, 2, 2, 3, 1, 0, 2, 2], _, rfl, upd_same, B3.free np pt.1, pt.1, by decide, by decide, by decide, T3.put pt.1 pt.2, But.new B3 (B3.free np pt.1)⟩
      · walk_at "go"
        exact hN _ _ ⟨d, ks, _, rfl, hd, nd0, dt.1, fun k hk => ⟨(kb k hk).1, by have := (kb k hk).2; omega⟩, by omega, by omega, T3, B3⟩
    rintro σ H4 ⟨d1, ks1, y1, rfl, hd4, nd4, dt4, kb4, ks4, kl4, T4, B4⟩
    with_reducible refine' l_cut (szI t a p0 sh H) (fun N hN => ?_) ?_
    · walk_at "go"
      refine l_if (fun c1 => ?_) (fun c1 => ?_)
      · walk_at "go"
        refine ⟨(by show 1 ≤ sizeLine; decide), fun p np => ?_⟩
        walk_at "go"
        have pt := T4.ne np
        refine hN _ _ ⟨p, [24], _, rfl, upd_same, B4.free np pt.1, pt.1, by decide, by decide, by decide, T4.put pt.1 pt.2, But.new B4 (B4.free np pt.1)⟩
      · walk_at "go"
        exact hN _ _ ⟨d1, ks1, _, rfl, hd4, nd4, dt4, kb4, ks4, kl4, T4, B4⟩
    clear hd hd2 B12 dt nd0 nd kl kb hd4 nd4 dt4 kb4 ks4 kl4 T3 T4 B3 B4 T2 B2 T1 B1 hT n0 n1
    rintro σ H5 ⟨e, ls, y2, rfl, he, ne0, et, lb, lsum, ll, T5, B5⟩
    walk_at "go"
    refine ⟨Nat.zero_le _, fun g ng => ?_⟩
    walk_at "go"
    have gt := T5.ne ng
    have ng0 := B5.free ng gt.1
    have eg : e ≠ g := ne_of_none he ng
    refine ⟨e, rfl, ⟨_, sqL (by rw [upd_ne eg]; exact he)⟩, for_list (xs := ls.map V.int) (fun i σ H' => ∃ (R : List CRow) (vs : List V) (y4 y6 y7 y8 y9 : Option V), σ = [some (.ref t), some (.ref p0), some (.int sh), some (.ref e), y4, some (.ref g), y6, y7, y8, y9] ∧ R.length = i ∧ (celN R : Int) = (ls.take i).sum ∧ GoodR zs R ∧ H' g = some (.lst vs) ∧ DpAll K H' vs (R.map rowD) ∧ H' e = some (.lst (ls.map V.int)) ∧ Tape H' t a ∧ But t H H')
      ⟨[], [], y2, none, none, none, none, rfl, rfl, rfl, (fun r hr => nomatch hr), upd_same, .nil, by rw [upd_ne eg]; exact he, T5.put gt.1 gt.2, But.new B5 ng0⟩ ?_ ?_ ?_⟩
    · rintro i σ H6 _ ⟨R, vs, y4, y6, y7, y8, y9, rfl, _, _, _, _, _, he6, _, _⟩
      exact sqL he6
    · rintro i x σ H6 hx ⟨R, vs, y4, y6, y7, y8, y9, rfl, Rl, Rc, Rt, hg6, hA6, he6, T6, B6⟩
      rw [List.getElem?_map] at hx
      obtain ⟨k, hk, rfl⟩ := Option.map_eq_some_iff.mp hx
      have kb := lb k (List.mem_of_getElem? hk)
      have il : i < ls.length := (List.getElem?_eq_some_iff.mp hk).1
      have tks := take_sum hk
      walk_at "go"
      refine ⟨Nat.zero_le _, fun c nc => ?_⟩
      walk_at "go"
      have ct := T6.ne nc
      have nc0 := B6.free nc ct.1
      have gc : g ≠ c := ne_of_none hg6 nc
      have ec : e ≠ c := ne_of_none he6 nc
      refine ⟨k, rfl, by omega, by omega, for_range (fun j σ H' => ∃ (cs : List Cel) (us : List V) (y4 y8 y9 : Option V), σ = [some (.ref t), some (.ref p0), some (.int sh), some (.ref e), y4, some (.ref g), some (.int k), some (.ref c), y8, y9] ∧ cs.length = j ∧ (∀ c ∈ cs, Good zs c) ∧ H' c = some (.lst us) ∧ DpAll K H' us (cs.map Cel.d) ∧ Tape H' t a ∧ But t H6 H')
        ⟨[], [], y4, y8, y9, rfl, rfl, by simp, upd_same, .nil, T6.put ct.1 ct.2, But.new (But.refl t H6) nc⟩ ?_ ?_⟩
      · rintro j σ H7 hj ⟨cs, us, y4, y8, y9, rfl, cl, cz, hc7, hA7, T7, B7⟩
        walk_at "go"
        refine ⟨t, a, _, rfl, T7, by decide, fun n H8 n0 n1 T8 B8 => ?_⟩
        have B68 := B7.trans B8
        have B08 := B6.trans B68
        have hz8 := B08.seq pt0 hq
        have hc8 := B8 c _ ct.1 hc7
        have hA8 := DpAll.keep (TK.but B8 ⟨a, T7⟩) _ _ (cels_pu cs) hA7
        have f0 := fmod_lt (fdiv_nn n0 (show (0 : Int) < 8 by decide)) (show (0 : Int) < ((zs.map V.str).length : Int) by omega)
        obtain ⟨z, hx, hx2⟩ := atI_map (f := V.str) (xs := zs) f0.1 (by have := f0.2; rw [List.length_map] at this ⊢; exact this)
        walk_at "go"
        refine l_lenL hz8 ?_
        walk_at "go"
        refine l_ixL hz8 hx ?_
        refine l_gname ?_
        with_reducible refine' l_cut (fun σ' H' => ∃ (v : V) (o : Cel), σ' = [some (.ref t), some (.ref p0), some (.int sh), some (.ref e), some (.int (0 + (j : Int))), some (.ref g), some (.int k), some (.ref c), some (.int n), some v] ∧ Dp K H8 v o.d ∧ Good zs o ∧ H' = H8) (fun N hN => ?_) ?_
        · walk_at "go"
          refine l_if (fun c1 => ?_) (fun c1 => ?_)
          · walk_at "go"
            exact hN _ _ ⟨_, .null, rfl, .non, trivial, rfl⟩
          · walk_at "go"
            exact hN _ _ ⟨_, .txt z, rfl, .str z, List.mem_of_getElem? hx2, rfl⟩
        rintro σ H9 ⟨v, o, rfl, ho, oz, rfl⟩
        with_reducible refine' l_cut (fun σ' H' => ∃ (v : V) (o : Cel), σ' = [some (.ref t), some (.ref p0), some (.int sh), some (.ref e), some (.int (0 + (j : Int))), some (.ref g), some (.int k), some (.ref c), some (.int n), some v] ∧ Dp K H' v o.d ∧ Good zs o ∧ Same H9 H' ∧ Tape H' t a) (fun N hN => ?_) ?_
        · walk_at "go"
          refine l_if (fun c1 => ?_) (fun c1 => ?_)
          · walk_at "go"
            refine ⟨(by show 4 ≤ sizeLine; decide), fun p np => ?_⟩
            have f4 := fmod_lt (fdiv_nn n0 (show (0 : Int) < 8 by decide)) (show (0 : Int) < 4 by decide)
            obtain ⟨w4, hw, hw2⟩ := atI_map (f := V.str) (xs := ["active", "v1", "x", "c1"]) f4.1 f4.2
            walk_at "go"
            refine ⟨(by show 1 ≤ sizeLine; decide), fun r nr => ?_⟩
            walk_at "go"
            have pt := T8.ne np
            have T10 := T8.put (u := .lst [V.str "active", V.str "v1", V.str "x", V.str "c1"]) pt.1 pt.2
            have rt := T10.ne nr
            exact hN _ _ ⟨_, .val w4, rfl, .tup (sqT upd_same) (.cons (.str w4) .nil), (show w4 ∈ four from List.mem_of_getElem? hw2), (new_same np).trans (new_same nr), T10.put rt.1 rt.2⟩
          · walk_at "go"
            exact hN _ _ ⟨_, o, rfl, ho, oz, fun _ _ h => h, T8⟩
        rintro σ H10 ⟨v2, o2, rfl, ho2, oz2, S10, T10⟩
        have hc10 := S10 _ _ hc8
        have hA10 := DpAll.keep (TK.of_same S10) _ _ (cels_pu cs) hA8
        have ul : us.length = cs.length := by rw [hA7.len, List.length_map]
        have room : us.length < sizeLine := fits_lt (by omega)
        walk_at "go"
        refine ⟨cs ++ [o2], us ++ [v2], _, _, _, rfl, by rw [List.length_append, cl]; rfl, fun z hz => ?_, upd_same, ?_, T10.put ct.1 ct.2, But.new (B68.trans (Same.but S10)) nc⟩
        · rcases List.mem_append.mp hz with hz | hz
          · exact cz z hz
          · rw [List.mem_singleton.mp hz]; exact oz2
        · rw [List.map_append]
          exact DpAll.snoc (DpAll.keep (TK.put hc10) _ _ (cels_pu cs) hA10) (Dp.keep (TK.put hc10) _ _ (cel_pu o2) ho2)
      rintro σ H7 ⟨cs, us, z4, z8, z9, rfl, cl, cz, hc7, hA7, T7, B7⟩
      have hg7 := B7 g _ gt.1 hg6
      have he7 := B7 e _ et he6
      have hV7 := DpAll.keep (TK.but B7 ⟨a, T6⟩) _ _ (rows_pu R) hA6
      have vl : vs.length = R.length := by rw [hA6.len, List.length_map]
      have room : vs.length < sizeLine := fits_lt (by omega)
      have B07 := B6.trans B7
      walk_at "go"
      refine l_if (fun c1 => ?_) (fun c1 => ?_)
      · walk_at "go"
        refine ⟨R ++ [none], vs ++ [.non], _, _, _, _, _, rfl, by rw [List.length_append, Rl]; rfl, ?_, fun z hz => ?_, upd_same, ?_, by rw [upd_ne eg]; exact he7, T7.put gt.1 gt.2, But.new B07 ng0⟩
        · rw [celN_snoc, tks, c1]
          show ((celN R + 0 : Nat) : Int) = _
          omega
        · rcases List.mem_append.mp hz with hz | hz
          · exact Rt z hz
          · rw [List.mem_singleton.mp hz]; exact fun c hc => nomatch hc
        · rw [List.map_append]
          exact DpAll.snoc (DpAll.keep (TK.put hg7) _ _ (rows_pu R) hV7) .non
      · walk_at "go"
        refine l_tupL (sqL hc7) fun r nr => ?_
        have gr : g ≠ r := ne_of_none hg7 nr
        have er : e ≠ r := ne_of_none he7 nr
        have rt := T7.ne nr
        have hg8 : (L2.upd H7 r (.tup us)) g = some (.lst vs) := by rw [upd_ne gr]; exact hg7
        walk_at "go"
        refine ⟨R ++ [some cs], vs ++ [.ref r], _, _, _, _, _, rfl, by rw [List.length_append, Rl]; rfl, ?_, fun z hz => ?_, upd_same, ?_, by rw [upd_ne eg, upd_ne er]; exact he7, (T7.put rt.1 rt.2).put gt.1 gt.2, But.new (But.new B07 (B07.free nr rt.1)) ng0⟩
        · rw [celN_snoc, tks]
          show ((celN R + cs.length : Nat) : Int) = _
          omega
        · rcases List.mem_append.mp hz with hz | hz
          · exact Rt z hz
          · rw [List.mem_singleton.mp hz]; exact cz
        · rw [List.map_append]
          have k1 := DpAll.keep (TK.new (o := .tup us) nr) _ _ (rows_pu R) hV7
          have k2 := DpAll.keep (TK.new (o := .tup us) nr) _ _ (cels_pu cs) hA7
          have k3 : Dp K (L2.upd H7 r (.tup us)) (.ref r) (rowD (some cs)) := .tup (sqT upd_same) k2
          exact DpAll.snoc (DpAll.keep (TK.put hg8) _ _ (rows_pu R) k1) (Dp.keep (TK.put hg8) _ _ (row_pu (some cs)) k3)
    rintro σ H6 ⟨R, vs, y4, y6, y7, y8, y9, rfl, Rl, Rc, Rt, hg6, hA6, he6, T6, B6⟩
    walk_at "go"
    refine l_tupL (sqL hg6) fun r nr => ?_
    show Q _ _
    have rt := T6.ne nr
    rw [List.length_map] at Rl
    rw [List.length_map, List.take_length] at Rc
    exact q R _ _ (.tup (sqT upd_same) (DpAll.keep (TK.new nr) _ _ (rows_pu R) hA6)) Rt (by omega) (by omega) (But.new B6 (B6.free nr rt.1)) (T6.put rt.1 rt.2)
end
end K06
namespace K06
open PySem PySem.Spec PyProof.Rows L2 Tq
section
variable {P : Program} {w : World} {K : PySem.W.Frag} {mg : Str → Option Value} {base : Heap}
def spTouch (K : PySem.W.Frag) : Sp := fun vs H Q _ => ∃ (t a : Addr) (v0 : V) (R : List CRow) (pc : Addr) (cvs : List V) (cls : List Cel) (Pc : Cel → Prop), vs = [.ref t, v0, .ref pc] ∧ Tape H t a ∧ Dp K H v0 (recD R) ∧ 1 ≤ R.length ∧ R.length ≤ 10 ∧ celN R ≤ 24 ∧ AllC Pc R ∧ SqL K H pc cvs ∧ DpAll K H cvs (cls.map Cel.d) ∧ (∀ c ∈ cls, Pc c) ∧ 1 ≤ cls.length ∧ cls.length ≤ 1000 ∧ pc ≠ t ∧
  ∀ (S : List CRow) (v : V) (H' : Hp), Dp K H' v (recD S) → AllC Pc S → celN S ≤ 24 → S.length = R.length → But t H H' → Tape H' t a → Q v H'

theorem ok_law_touched (D : Ds K mg) (T : Txt mg) : FnOk P w K mg base CX0 2 D.law_touched.f D.law_touched.fd ["tape", "record", "cells"] (spTouch K) := by
  have sc := sc_law_touched
  refine D.law_touched.F.ok sc (fun vs H Q E h => ?_) (fun cdv A outer s H vs Q E hr h => ?_)
  · obtain ⟨t, a, v0, R, pc, cvs, cls, Pc, rfl, _⟩ := h
    rfl
  · obtain ⟨t, a, v0, R, pc, cvs, cls, Pc, rfl, hT, hR, rn, rl, rc, oR, hC, hCA, oC, cn, cl, ct, q⟩ := h
    refine ⟨_, (pss_cons (ps_set (i := 3) sc.nd rfl (Or.inl rfl) (pe_callTy (k_list (K := K) rfl) (by rfl) T.b_list (by decide +kernel) (pa_cons (pv 1) pa_nil)))
    (pss_cons (ps_set (i := 4) sc.nd rfl (Or.inl rfl) (pe_call (ok_law_draw D T) hr (by rfl) D.law_draw.g D.law_draw.F.kp D.law_draw.b .nil pass0 (pa_cons (pv 0) (pa_cons (pe_callB (k_len (K := K) rfl) (by rfl) T.b_len PySem.boot_len (pa_cons (pv 3) pa_nil)) pa_nil))))
    (pss_cons (ps_set (i := 5) sc.nd rfl (Or.inl rfl) (pe_ix (k_ixL (K := K) rfl) (pv 2) (pe_call (ok_law_draw D T) hr (by rfl) D.law_draw.g D.law_draw.F.kp D.law_draw.b .nil pass0 (pa_cons (pv 0) (pa_cons (pe_callB (k_len (K := K) rfl) (by rfl) T.b_len PySem.boot_len (pa_cons (pv 2) pa_nil)) pa_nil))) (fun _ _ => rfl)))
    (pss_cons (ps_if (pt_truth (pe_ix (k_ixL (K := K) rfl) (pv 3) (pv 4) (fun _ _ => rfl)) (by intro _; rfl)) (pss_cons (ps_set (i := 6) sc.nd rfl (Or.inl rfl) (pe_callTy (k_list (K := K) rfl) (by rfl) T.b_list (by decide +kernel) (pa_cons (pe_ix (k_ixL (K := K) rfl) (pv 3) (pv 4) (fun _ _ => rfl)) pa_nil)))
    (pss_cons (ps_asg (pv 5) (pg_sub (pv 6) (pe_call (ok_law_draw D T) hr (by rfl) D.law_draw.g D.law_draw.F.kp D.law_draw.b .nil pass0 (pa_cons (pv 0) (pa_cons (pe_callB (k_len (K := K) rfl) (by rfl) T.b_len PySem.boot_len (pa_cons (pv 6) pa_nil)) pa_nil))) set_list))
    (pss_one (ps_asg (pe_callTy (k_tuple (K := K) rfl) (by rfl) T.b_tuple (by decide +kernel) (pa_cons (pv 6) pa_nil)) (pg_sub (pv 3) (pv 4) set_list))))) (pss_one (ps_if (pt_cmpR o_lt (pe_callB (c_sum (K := K) rfl rfl) (by rfl) T.b_sum (by decide +kernel) (pa_cons (pe_lc (own := [("row", 6)]) rfl sc.nd (k_piL (K := K) rfl (pv 3)) (blkOk_by (N := ["tape", "record", "cells", "rows", "place", "cell", "row"]) (sc := defScope s_law_touched) (by decide +kernel)) (fun _ _ _ _ _ => (pg_name (i := 6) sc.nd rfl (Or.inl rfl))) (fun _ _ _ _ _ => pts_one (pt_cmpR o_notN (pv 6) pe_non (nomark _))) (fun _ _ _ _ _ => (pe_callB (k_len (K := K) rfl) (by rfl) T.b_len PySem.boot_len (pa_cons (pv 6) pa_nil)))) pa_nil)) pe_int (nomark _)) (pss_one (ps_asg (pe_tup (pa_cons (pv 5) pa_nil)) (pg_sub (pv 3) (pv 4) set_list))) pss_nil)))
    (pss_one (ps_ret (pe_callTy (k_tuple (K := K) rfl) (by rfl) T.b_tuple (by decide +kernel) (pa_cons (pv 3) pa_nil)))))))), ?_⟩
    obtain ⟨p, xs, rfl, hS, hA⟩ := dp_tup hR
    have ex : xs.length = R.length := by rw [hA.len, List.length_map]
    have ec : cvs.length = cls.length := by rw [hCA.len, List.length_map]
    walk_at "go"
    refine ⟨p, xs, rfl, .inr hS, fun l nl => ?_⟩
    have lt := hT.ne nl
    have s1 := new_same (o := .lst xs) nl
    have hC1 := s1.seq hC
    have T1 := hT.put (u := .lst xs) lt.1 lt.2
    walk_at "go"
    refine ⟨t, a, _, rfl, T1, by omega, fun n H2 n0 n1 T2 B2 => ?_⟩
    have hl2 := B2 l _ lt.1 upd_same
    have hC2 := B2.seq ct hC1
    have A2 := DpAll.keep (TK.but B2 ⟨a, T1⟩) _ _ (rows_pu R) (DpAll.keep (TK.of_same s1) _ _ (rows_pu R) hA)
    walk_at "go"
    refine l_lenL hC2 ?_
    walk_at "go"
    refine ⟨t, a, _, rfl, T2, by omega, fun m H3 m0 m1 T3 B3 => ?_⟩
    have hl3 := B3 l _ lt.1 hl2
    have hC3 := B3.seq ct hC2
    have A3 := DpAll.keep (TK.but B3 ⟨a, T2⟩) _ _ (rows_pu R) A2
    have CA3 := DpAll.keep (TK.but B3 ⟨a, T2⟩) _ _ (cels_pu cls) (DpAll.keep (TK.but B2 ⟨a, T1⟩) _ _ (cels_pu cls) (DpAll.keep (TK.of_same s1) _ _ (cels_pu cls) hCA))
    have B03 : But t H H3 := ((Same.but s1).trans B2).trans B3
    obtain ⟨k, rfl⟩ := Int.eq_ofNat_of_zero_le n0
    obtain ⟨j, rfl⟩ := Int.eq_ofNat_of_zero_le m0
    obtain ⟨r, hr⟩ : ∃ r, R[k]? = some r := ⟨_, List.getElem?_eq_getElem (by omega)⟩
    obtain ⟨c, hc⟩ : ∃ c, cls[j]? = some c := ⟨_, List.getElem?_eq_getElem (by omega)⟩
    obtain ⟨rv, hrv, erv, hrd⟩ := dp_of A3 hr
    obtain ⟨cv, hcv, ecv, hcd⟩ := dp_of CA3 hc
    have oc := oC c (List.mem_of_getElem? hc)
    have kl : k < xs.length := by omega
    walk_at "go"
    refine l_ixL hC3 ecv ?_
    walk_at "go"
    refine ⟨_, row_tru hrd, ?_⟩
    have cset := fun s => celN_set s hr
    refine l_if2 (fun c1 => ?_) (fun c1 => ?_)
    · obtain ⟨cs, rfl⟩ : ∃ cs, r = some cs := by
        cases r with
        | none => exact absurd c1 (by decide)
        | some cs => exact ⟨cs, rfl⟩
      have cs0 : cs ≠ [] := by
        rintro rfl
        exact absurd c1 (by decide)
      have csl : 0 < cs.length := List.length_pos_iff.mpr cs0
      obtain ⟨pr, us, rfl, hus, hUA⟩ := dp_tup hrd
      have ul := hUA.len
      rw [List.length_map] at ul
      have crow := celN_row hr
      walk_at "go"
      refine ⟨pr, us, rfl, .inr hus, fun l2 nl2 => ?_⟩
      have l2t := T3.ne nl2
      have s4 := new_same (o := .lst us) nl2
      have hl4 := s4 _ _ hl3
      have T4 := T3.put (u := .lst us) l2t.1 l2t.2
      have nl20 := B03.free nl2 l2t.1
      walk_at "go"
      refine ⟨t, a, _, rfl, T4, by omega, fun h H5 h0 h1 T5 B5 => ?_⟩
      have hl5 := B5 l _ lt.1 hl4
      have hr5 := B5 l2 _ l2t.1 upd_same
      have k35 : TK H3 H5 := (TK.of_same s4).trans (TK.but B5 ⟨a, T4⟩)
      have hcd5 := Dp.keep k35 _ _ (cel_pu c) hcd
      have hU5 := DpAll.keep k35 _ _ (cels_pu cs) hUA
      have A5 := DpAll.keep k35 _ _ (rows_pu R) A3
      obtain ⟨g, rfl⟩ := Int.eq_ofNat_of_zero_le h0
      have e1 : ixN us.length (g : Int) = some g := ixN_nat (by omega)
      walk_at "go"
      refine l_tupL (sqL upd_same) fun r2 nr2 => ?_
      have ll2 : l ≠ l2 := ne_of_none hl3 nl2
      have lr2 : l ≠ r2 := ne_of_none (by rw [upd_ne ll2]; exact hl5) nr2
      have e2 : ixN xs.length (k : Int) = some k := ixN_nat kl
      have hl6 : (L2.upd (L2.upd H5 l2 (.lst (us.set g cv))) r2 (.tup (us.set g cv))) l = some (.lst xs) := by rw [upd_ne lr2, upd_ne ll2]; exact hl5
      walk_at "go"
      refine l_tupL (sqL upd_same) fun r3 nr3 => ?_
      show Q _ _
      have r2t := (T5.put (u := .lst (us.set g cv)) l2t.1 l2t.2).ne nr2
      have T6 := ((T5.put (u := .lst (us.set g cv)) l2t.1 l2t.2).put (u := .tup (us.set g cv)) r2t.1 r2t.2).put (u := .lst (xs.set k (.ref r2))) lt.1 lt.2
      have r3t := T6.ne nr3
      have k56 := ((TK.put (o := .lst (us.set g cv)) hr5).trans (TK.new (o := .tup (us.set g cv)) nr2)).trans (TK.put (o := .lst (xs.set k (.ref r2))) hl6)
      have A6 := DpAll.keep (k56.trans (TK.new (o := .tup (xs.set k (.ref r2))) nr3)) _ _ (rows_pu R) A5
      have kb := (TK.put (o := .lst (xs.set k (.ref r2))) hl6).trans (TK.new (o := .tup (xs.set k (.ref r2))) nr3)
      have hU6 := DpAll.keep (k56.trans (TK.new (o := .tup (xs.set k (.ref r2))) nr3)) _ _ (cels_pu cs) hU5
      have hc6 := Dp.keep (k56.trans (TK.new (o := .tup (xs.set k (.ref r2))) nr3)) _ _ (cel_pu c) hcd5
      have row : Dp K _ (.ref r2) (rowD (some (cs.set g c))) := .tup (kb.sq (sqT upd_same)) (by rw [List.map_set]; exact dpAll_set g hU6 hc6)
      refine q (R.set k (some (cs.set g c))) _ _ (.tup (sqT upd_same) (by rw [List.map_set]; exact dpAll_set k A6 row)) (oR.set fun d hd => ?_) ?_ (by rw [List.length_set]) ?_ (T6.put r3t.1 r3t.2)
      · rcases List.mem_or_eq_of_mem_set hd with m | e
        · exact oR _ (List.mem_of_getElem? hr) d m
        · rw [e]; exact oc
      · have := cset (some (cs.set g c))
        simp only [Option.getD_some, List.length_set] at this
        omega
      · intro b o nb hb
        have b4 := s4 _ _ (B03 b o nb hb)
        have b5 := B5 b o nb b4
        have n2 : b ≠ l2 := ne_of_none hb nl20
        have b6 : (L2.upd H5 l2 (.lst (us.set g cv))) b = some o := by rw [upd_ne n2]; exact b5
        have b7 := new_same (o := .tup (us.set g cv)) nr2 _ _ b6
        have b8 : (L2.upd (L2.upd (L2.upd H5 l2 (.lst (us.set g cv))) r2 (.tup (us.set g cv))) l (.lst (xs.set k (.ref r2)))) b = some o := by rw [upd_ne (ne_of_none hb nl)]; exact b7
        exact new_same nr3 _ _ b8
    · have r0 : (r.getD []).length = 0 := by
        have : (r.getD []) = [] := by simpa using c1
        rw [this]; rfl
      walk_at "go"
      refine ⟨l, rfl, ⟨_, sqL hl3⟩, fun g ng => lc_list (xs := xs) (fun i H' => Same H3 H' ∧ H' g = some (.lst ((lens (R.take i)).map V.int))) ⟨new_same ng, upd_same⟩ (fun i H' _ h => sqL (h.1 _ _ hl3)) ?_ ?_⟩
      · rintro i x H' hx ⟨sm, hg⟩
        obtain ⟨d, hd, hxd⟩ := A3.at hx
        rw [List.getElem?_map] at hd
        obtain ⟨s, hs, rfl⟩ := Option.map_eq_some_iff.mp hd
        have hs' := Dp.keep (TK.of_same sm) _ _ (row_pu s) hxd
        have ll := lens_len (R.take i)
        rw [List.length_take] at ll
        walk_at "go"
        refine ⟨rfl, ?_⟩
        cases s with
        | none =>
          have e := dp_none hs'
          subst e
          walk_at "go"
          rw [decide_eq_true rfl]
          walk_at "go"
          exact ⟨sm, by rw [lens_take hs]; rw [hg]; show some (HO.lst _) = some (HO.lst (List.map V.int (_ ++ []))); rw [List.append_nil]⟩
        | some cs =>
          obtain ⟨p2, us, rfl, hus, hUA⟩ := dp_tup hs'
          have ul := hUA.len
          rw [List.length_map] at ul
          have e1 : decide (V.ref p2 = V.non) = false := decide_eq_false (fun e => nomatch e)
          walk_at "go"
          rw [e1]
          walk_at "go"
          rw [ul]
          refine ⟨_, hg, fits_lt (by rw [List.length_map]; omega), ?_, ?_⟩
          · intro b o hb
            rw [upd_ne (ne_of_none hb ng)]
            exact sm _ _ hb
          · rw [upd_same, lens_take hs, List.map_append]; rfl
      · rintro H4 ⟨S4, hg⟩
        rw [ex, List.take_length] at hg
        walk_at "go"
        refine l_sum (sqL hg) ?_
        rw [lens_sum]
        walk_at "go"
        have T4 := T3.same S4
        have hl4 := S4 _ _ hl3
        have A4 := DpAll.keep (TK.of_same S4) _ _ (rows_pu R) A3
        have hc4 := Dp.keep (TK.of_same S4) _ _ (cel_pu c) hcd
        have B04 := B03.trans (Same.but S4)
        refine l_if (fun c2 => ?_) (fun c2 => ?_)
        · walk_at "go"
          refine ⟨by show 1 ≤ sizeLine; decide, fun r2 nr2 => ?_⟩
          have r2t := T4.ne nr2
          have lr2 : l ≠ r2 := ne_of_none hl4 nr2
          have hl5 : (L2.upd H4 r2 (.tup [cv])) l = some (.lst xs) := by rw [upd_ne lr2]; exact hl4
          have e2 : ixN xs.length (k : Int) = some k := ixN_nat kl
          walk_at "go"
          refine l_tupL (sqL upd_same) fun r3 nr3 => ?_
          show Q _ _
          have T6 := (T4.put (u := .tup [cv]) r2t.1 r2t.2).put (u := .lst (xs.set k (.ref r2))) lt.1 lt.2
          have r3t := T6.ne nr3
          have kb := (TK.put (o := .lst (xs.set k (.ref r2))) hl5).trans (TK.new (o := .tup (xs.set k (.ref r2))) nr3)
          have ka := (TK.new (o := .tup [cv]) nr2).trans kb
          have A6 := DpAll.keep ka _ _ (rows_pu R) A4
          have hc6 := Dp.keep ka _ _ (cel_pu c) hc4
          have row : Dp K _ (.ref r2) (rowD (some [c])) := .tup (kb.sq (sqT upd_same)) (.cons hc6 .nil)
          refine q (R.set k (some [c])) _ _ (.tup (sqT upd_same) (by rw [List.map_set]; exact dpAll_set k A6 row)) (oR.set fun d hd => ?_) ?_ (by rw [List.length_set]) ?_ (T6.put r3t.1 r3t.2)
          · rw [List.mem_singleton.mp hd]; exact oc
          · have := cset (some [c])
            simp only [Option.getD_some, List.length_singleton] at this
            omega
          · intro b o nb hb
            have b5 := new_same (o := .tup [cv]) nr2 _ _ (B04 b o nb hb)
            have b8 : (L2.upd (L2.upd H4 r2 (.tup [cv])) l (.lst (xs.set k (.ref r2)))) b = some o := by rw [upd_ne (ne_of_none hb nl)]; exact b5
            exact new_same nr3 _ _ b8
        · walk_at "go"
          refine l_tupL (sqL hl4) fun r3 nr3 => ?_
          show Q _ _
          have r3t := T4.ne nr3
          exact q R _ _ (.tup (sqT upd_same) (DpAll.keep (TK.new nr3) _ _ (rows_pu R) A4)) oR rc rfl (But.new B04 (B04.free nr3 r3t.1)) (T4.put r3t.1 r3t.2)
end
end K06
namespace K06
open PySem PySem.Spec PyProof.Rows L2 Tq
section
variable {P : Program} {w : World} {K : PySem.W.Frag} {mg : Str → Option Value} {base : Heap}
def spNear (K : PySem.W.Frag) : Sp := fun vs H Q _ => ∃ (t a : Addr) (v0 : V) (R : List CRow) (pt : Addr) (zs : List Str) (pc : Addr) (fx : List Str), vs = [.ref t, v0, .ref pt, .ref pc] ∧ Tape H t a ∧ Dp K H v0 (recD R) ∧ 1 ≤ R.length ∧ R.length ≤ 10 ∧ celN R ≤ 24 ∧ AllC (GoodV zs) R ∧ SqL K H pt (zs.map V.str) ∧ pt ≠ t ∧ zs.length ≤ 100 ∧ SqT K H pc (fx.map V.str) ∧ pc ≠ t ∧ fx.length ≤ 40 ∧ (∀ z ∈ zs, PyData.strOk z = true) ∧ (∀ z ∈ fx, z ∈ zs) ∧
  ∀ (S : List CRow) (v : V) (H' : Hp), Dp K H' v (recD S) → AllC (GoodV zs) S → celN S ≤ 24 → (1 ≤ S.length ∧ S.length ≤ 11) → But t H H' → Tape H' t a → Q v H'

theorem ok_law_near (D : Ds K mg) (T : Txt mg) : FnOk P w K mg base CX0 3 D.law_near.f D.law_near.fd ["tape", "record", "texts", "constants"] (spNear K) := by
  have sc := sc_law_near
  refine D.law_near.F.ok sc (fun vs H Q E h => ?_) (fun cdv A outer s H vs Q E hr h => ?_)
  · obtain ⟨t, a, v0, R, pt, zs, pc, fx, rfl, _⟩ := h
    rfl
  · obtain ⟨t, a, v0, R, pt, zs, pc, fx, rfl, hT, hR, rn, rl, rc, oR, hZ, zt, zl, hX, xt, xl, oz, ox, q⟩ := h
    refine ⟨_, (pss_cons (ps_set (i := 4) sc.nd rfl (Or.inl rfl) (pe_call (ok_law_draw D T) (hr.mono (by decide)) (by rfl) D.law_draw.g D.law_draw.F.kp D.law_draw.b .nil pass0 (pa_cons (pv 0) (pa_cons pe_int pa_nil))))
    (pss_cons (ps_set (i := 5) sc.nd rfl (Or.inl rfl) (pe_call (ok_law_free D T) hr (by rfl) D.law_free.g D.law_free.F.kp D.law_free.b .nil pass0 (pa_cons (pv 1) (pa_cons (pv 3) pa_nil))))
    (pss_cons (ps_setLc (i := 6) (own := [("text", 7)]) rfl sc.nd rfl rfl (sw_true rfl rfl rfl (by decide +kernel)) (k_piL (K := K) rfl (pv 2)) (blkOk_by (N := ["tape", "record", "texts", "constants", "choice", "free", "others", "text", "chosen", "changes", "near", "place"]) (sc := defScope s_law_near) (by decide +kernel)) (fun _ _ _ _ _ => (pg_name (i := 7) sc.nd rfl (Or.inl rfl))) (fun _ _ _ _ _ => pts_one (pt_cmpR (k_notIn (K := K) rfl) (pv 7) (pv 3) (by rfl))) (fun _ _ _ _ _ => (pv 7)))
    (pss_cons (ps_set (i := 8) sc.nd rfl (Or.inl rfl) (pe_slice (k_slL (K := K) rfl) (pe_call (ok_law_shuffled D T) hr (by rfl) D.law_shuffled.g D.law_shuffled.F.kp D.law_shuffled.b .nil pass0 (pa_cons (pv 0) (pa_cons (pv 6) pa_nil))) po_none (po_some (pe_callB (k_len (K := K) rfl) (by rfl) T.b_len PySem.boot_len (pa_cons (pv 5) pa_nil)))))
    (pss_cons (ps_if (PW.pt (pw_and (pt_cmpR op_eq (pv 4) pe_int (nomark _)) (pw_and1 (pt_cmpR o_gt (pe_callB (k_len (K := K) rfl) (by rfl) T.b_len PySem.boot_len (pa_cons (pv 5) pa_nil)) pe_int (nomark _))))) (pss_one (ps_asg (pe_ix (k_ixL (K := K) rfl) (pv 8) pe_int (fun _ _ => rfl)) (pg_sub (pv 8) pe_int set_list))) pss_nil)
    (pss_cons (ps_set (i := 9) sc.nd rfl (Or.inl rfl) (pe_call (ok_law_paired D T) (hr.mono (by decide)) (by rfl) D.law_paired.g D.law_paired.F.kp D.law_paired.b .nil pass0 (pa_cons (pv 5) (pa_cons (pv 8) pa_nil))))
    (pss_cons (ps_if (PW.pt (pw_and (pt_cmpR op_eq (pv 4) pe_int (nomark _)) (pw_and (pt_truth (pv 3) (by intro _; rfl)) (pw_and1 (pt_truth (pv 5) (by intro _; rfl)))))) (pss_one (ps_asg (pe_ix (k_ixT (K := K) rfl) (pv 3) (pe_call (ok_law_draw D T) (hr.mono (by decide)) (by rfl) D.law_draw.g D.law_draw.F.kp D.law_draw.b .nil pass0 (pa_cons (pv 0) (pa_cons (pe_callB (k_len (K := K) rfl) (by rfl) T.b_len PySem.boot_len (pa_cons (pv 3) pa_nil)) pa_nil))) (fun _ _ => rfl)) (pg_sub (pv 9) (pe_ix (k_ixL (K := K) rfl) (pv 5) pe_int (fun _ _ => rfl)) (set_dict (hu_of hr))))) pss_nil)
    (pss_cons (ps_set (i := 10) sc.nd rfl (Or.inl rfl) (pe_call (ok_law_renamed D T) (hr.mono (by decide)) (by rfl) D.law_renamed.g D.law_renamed.F.kp D.law_renamed.b .nil pass0 (pa_cons (pv 1) (pa_cons (pv 9) pa_nil))))
    (pss_cons (ps_if (pt_cmpR op_eq (pv 4) pe_int (nomark _)) (pss_cons (ps_set (i := 11) sc.nd rfl (Or.inl rfl) (pe_call (ok_law_draw D T) (hr.mono (by decide)) (by rfl) D.law_draw.g D.law_draw.F.kp D.law_draw.b .nil pass0 (pa_cons (pv 0) (pa_cons (pe_callB (k_len (K := K) rfl) (by rfl) T.b_len PySem.boot_len (pa_cons (pv 10) pa_nil)) pa_nil))))
    (pss_one (ps_set (i := 10) sc.nd rfl (Or.inl rfl) (pe_ix (k_ixL (K := K) rfl) (pe_lst (pa_cons (pe_op (k_catA (K := K) rfl) (pe_op (k_catA (K := K) rfl) (pe_slice (k_slA (K := K) rfl) (pv 10) po_none (po_some (pv 11))) (pe_tup (pa_cons pe_non pa_nil))) (pe_slice (k_slA (K := K) rfl) (pv 10) (po_some (pe_op o_add (pv 11) pe_int)) po_none)) (pa_cons (pe_op (k_catA (K := K) rfl) (pv 10) (pe_tup (pa_cons pe_non pa_nil))) (pa_cons (pe_op (k_catA (K := K) rfl) (pe_slice (k_slA (K := K) rfl) (pv 10) (po_some pe_int) po_none) (pe_slice (k_slA (K := K) rfl) (pv 10) po_none (po_some pe_int))) pa_nil)))) (pe_call (ok_law_draw D T) (hr.mono (by decide)) (by rfl) D.law_draw.g D.law_draw.F.kp D.law_draw.b .nil pass0 (pa_cons (pv 0) (pa_cons pe_int pa_nil))) (fun _ _ => rfl))))) pss_nil)
    (pss_cons (ps_if (pt_cmpR o_gt (pv 4) pe_int (nomark _)) (pss_one (ps_set (i := 10) sc.nd rfl (Or.inl rfl) (pe_call (ok_law_touched D T) hr (by rfl) D.law_touched.g D.law_touched.F.kp D.law_touched.b .nil pass0 (pa_cons (pv 0) (pa_cons (pv 10) (pa_cons (pe_op op_cat (pe_callTy (k_list (K := K) rfl) (by rfl) T.b_list (by decide +kernel) (pa_cons (pv 2) pa_nil)) (pe_lst (pa_cons pe_non (pa_cons (pe_tup (pa_cons pe_str pa_nil)) (pa_cons (pe_tup (pa_cons pe_str pa_nil)) pa_nil))))) pa_nil)))))) pss_nil)
    (pss_one (ps_ret (pv 10))))))))))))), ?_⟩
    walk_at "go"
    refine ⟨t, a, 8, rfl, hT, by decide, fun ch H1 c0 c1 T1 B1 => ?_⟩
    have k1 := TK.but B1 ⟨a, hT⟩
    have hR1 := Dp.keep k1 _ _ (rec_pu R) hR
    have hX1 := B1.seqT xt hX
    have hZ1 := B1.seq zt hZ
    walk_at "go"
    refine ⟨v0, R, pc, fx, rfl, hR1, by omega, .inr hX1, fun d1 H2 S2 n2 hd1 => ?_⟩
    obtain ⟨F, hF⟩ : ∃ F, F = freeT fx R := ⟨_, rfl⟩
    have Fl := freeT_len fx R
    have Fn := freeT_nd fx R
    have Fm : ∀ z ∈ F, z ∈ zs ∧ z ∉ fx := fun z hz => by
      rw [hF] at hz
      exact ⟨oR.texts z (freeT_mem.mp hz).1, (freeT_mem.mp hz).2⟩
    rw [← hF] at hd1 Fl Fn
    have T2 := T1.same S2
    have dt1 := T1.ne n2
    have hR2 := Dp.keep (TK.of_same S2) _ _ (rec_pu R) hR1
    have hX2 := S2.seqT hX1
    have hZ2 := S2.seq hZ1
    have B2 := B1.trans (Same.but S2)
    walk_at "go"
    refine ⟨pt, rfl, ⟨_, hZ2⟩, fun g ng => lc_list (xs := zs.map V.str) (fun i H' => Same H2 H' ∧ H' g = some (.lst (((zs.take i).filter fun z => !decide (z ∈ fx)).map V.str))) ⟨new_same ng, upd_same⟩ (fun i H' _ h => h.1.seq hZ2) ?_ ?_⟩
    · rintro i x H' hx ⟨sm, hg⟩
      rw [List.getElem?_map] at hx
      obtain ⟨z, hz, rfl⟩ := Option.map_eq_some_iff.mp hx
      have hX' := sm.seqT hX2
      have fl := List.length_filter_le (fun z => !decide (z ∈ fx)) (zs.take i)
      rw [List.length_take] at fl
      walk_at "go"
      refine ⟨rfl, ?_⟩
      walk_at "go"
      refine l_in (.inr hX') ?_
      walk_at "go"
      refine l_ifN (fun m => ?_) (fun m => ?_)
      · walk_at "go"
        refine ⟨_, hg, fits_lt (by rw [List.length_map]; omega), ?_, ?_⟩
        · intro b o hb
          rw [upd_ne (ne_of_none hb ng)]
          exact sm _ _ hb
        · rw [upd_same, List.take_add_one, hz, List.filter_append, List.map_append]
          simp [m]
      · refine ⟨sm, ?_⟩
        rw [List.take_add_one, hz, List.filter_append]
        simp [m, hg]
    rintro H3 ⟨S3, hg⟩
    rw [List.length_map, List.take_length] at hg
    obtain ⟨O, hO⟩ : ∃ O, O = zs.filter fun z => !decide (z ∈ fx) := ⟨_, rfl⟩
    rw [← hO] at hg
    have Ol : O.length ≤ zs.length := by rw [hO]; exact List.length_filter_le ..
    have Os : ∀ z ∈ O, z ∈ zs := fun z hz => by rw [hO] at hz; exact (List.mem_filter.mp hz).1
    have FO : F.length ≤ O.length := by
      refine List.Nodup.length_le_of_subset Fn fun z hz => ?_
      rw [hO]
      exact List.mem_filter.mpr ⟨(Fm z hz).1, by simp [(Fm z hz).2]⟩
    have gt := T2.ne ng
    have T3 := T2.same S3
    have hR3 := Dp.keep (TK.of_same S3) _ _ (rec_pu R) hR2
    have hX3 := S3.seqT hX2
    have hZ3 := S3.seq hZ2
    have hd3 := S3 _ _ hd1
    have B3 := B2.trans (Same.but S3)
    walk_at "go"
    refine ⟨t, a, g, O, rfl, T3, sqL hg, gt.1, by omega, fun ys d H4 pm B34 n4 dt h4 T4 => ?_⟩
    have k4 := TK.but B34 ⟨a, T3⟩
    have hR4 := Dp.keep k4 _ _ (rec_pu R) hR3
    have hX4 := B34.seqT xt hX3
    have hZ4 := B34.seq zt hZ3
    have hd4 := B34 d1 _ dt1.1 hd3
    have B4 := B3.trans B34
    have yl := pm.length_eq
    walk_at "go"
    refine l_part ?_
    walk_at "go"
    refine ⟨_, rfl, ?_⟩
    refine l_slL (sqL h4) fun c nc => ?_
    rw [List.length_map, cut_hi (by omega) (by rw [List.length_map]; omega), Int.toNat_natCast, ← List.map_take]
    have ct := T4.ne nc
    have s5 := new_same (o := .lst ((ys.take F.length).map V.str)) nc
    have hd5 := s5 _ _ hd4
    have cd1 : d1 ≠ c := ne_of_none hd4 nc
    have nc0 := B4.free nc ct.1
    have tlen : (ys.take F.length).length = F.length := by rw [List.length_take]; omega
    have tok : ∀ z ∈ ys.take F.length, z ∈ zs := fun z hz => Os z (pm.mem_iff.mp (List.mem_of_mem_take hz))
    generalize ys.take F.length = U at tlen tok s5 hd5 ⊢
    refine l_gname ?_
    with_reducible refine' l_cut (fun σ' H' => ∃ cz : List Str, σ' = [some (.ref t), some v0, some (.ref pt), some (.ref pc), some (.int ch), some (.ref d1), some (.ref g), none, some (.ref c), none, none, none] ∧ H' c = some (.lst (cz.map V.str)) ∧ cz.length = F.length ∧ (∀ z ∈ cz, z ∈ zs) ∧ But c H4 H') (fun N hN => ?_) ?_
    · have nx0 : But c H4 (L2.upd H4 c (.lst (U.map V.str))) := But.upd (But.refl c H4)
      walk_at "go"
      refine l_if (fun e1 => ?_) (fun e1 => ?_)
      · walk_at "go"
        rw [List.length_map]
        refine l_if (fun e2 => ?_) (fun e2 => ?_)
        · obtain ⟨z0, hz0⟩ : ∃ z, U[0]? = some z := ⟨_, List.getElem?_eq_getElem (by omega)⟩
          have ez : atI (U.map V.str) 0 = some (.str z0) := at_nat (i := 0) (by rw [List.getElem?_map, hz0]; rfl)
          have e3 : ixN (U.map V.str).length 1 = some 1 := ixN_nat (i := 1) (by rw [List.length_map]; omega)
          walk_at "go"
          refine hN _ _ ⟨U.set 1 z0, rfl, by rw [upd_same, List.map_set], by rw [List.length_set]; exact tlen, fun z hz => ?_, But.upd nx0⟩
          rcases List.mem_or_eq_of_mem_set hz with m | e
          · exact tok z m
          · rw [e]; exact tok z0 (List.mem_of_getElem? hz0)
        · walk_at "go"
          exact hN _ _ ⟨U, rfl, upd_same, tlen, tok, nx0⟩
      · walk_at "go"
        exact hN _ _ ⟨U, rfl, upd_same, tlen, tok, nx0⟩
    clear tlen tok s5 hd5 pm h4 yl U
    rintro σ' H5 ⟨cz, rfl, hc5, cl, cok, B45⟩
    have k5 := TK.butN B45 nc
    have hR5 := Dp.keep k5 _ _ (rec_pu R) hR4
    have hX5 := k5.sq hX4
    have hZ5 : SqL K H5 pt (zs.map V.str) := by
      rcases hZ4 with (h | ⟨o, h⟩) | h
      · exact .inl (.inl (B45 _ _ (ne_of_none h nc) h))
      · exact .inl (.inr ⟨o, B45 _ _ (ne_of_none h nc) h⟩)
      · exact .inr h
    have hd5 := B45 _ _ cd1 hd4
    have T5 : Tape H5 t a := by
      obtain ⟨ns, p, x, y, e1, e2, e3, e4, e5, e6⟩ := T4
      exact ⟨ns, p, x, y, e1, e2, e3, e4, B45 _ _ (ne_of_none e5 nc) e5, B45 _ _ (ne_of_none e6 nc) e6⟩
    have B5 : But t H H5 := fun b o nb hb => B45 _ _ (ne_of_none hb nc0) (B4 b o nb hb)
    walk_at "go"
    refine ⟨d1, c, F, cz, rfl, sqL hd5, sqL hc5, by omega, by omega, fun e H6 S6 n6 h6 => ?_⟩
    have et := T5.ne n6
    have T6 := T5.same S6
    have hX6 := S6.seqT hX5
    have hd6 := S6 _ _ hd5
    have B6 := B5.trans (Same.but S6)
    have hZ6 := S6.seq hZ5
    have ne0 := B5.free n6 et.1
    have hR6 := Dp.keep (TK.of_same S6) _ _ (rec_pu R) hR5
    refine l_gname ?_
    with_reducible refine' l_cut (fun σ' H' => ∃ prs : List (Str × Str), σ' = [some (.ref t), some v0, some (.ref pt), some (.ref pc), some (.int ch), some (.ref d1), some (.ref g), none, some (.ref c), some (.ref e), none, none] ∧ H' e = some (.dK (dicT prs)) ∧ (∀ p ∈ prs, p.2 ∈ zs) ∧ Tape H' t a ∧ But t H H' ∧ SqT K H' pc (fx.map V.str) ∧ SqL K H' pt (zs.map V.str) ∧ Dp K H' v0 (recD R)) (fun N hN => ?_) ?_
    · have ok0 : ∀ p ∈ F.zip cz, p.2 ∈ zs := fun p hp => cok _ (List.of_mem_zip hp).2
      walk_at "go"
      refine l_if (fun e1 => ?_) (fun e1 => ?_)
      · walk_at "go"
        refine ⟨_, .inr (.inl ⟨_, hX6, rfl⟩), ?_⟩
        refine l_if2 (fun e2 => ?_) (fun e2 => ?_)
        · walk_at "go"
          refine ⟨_, .inl ⟨_, sqL hd6, rfl⟩, ?_⟩
          refine l_if2 (fun e3 => ?_) (fun e3 => ?_)
          · have xp : 0 < fx.length := by
              cases fx with
              | nil => exact absurd e2 (by decide)
              | cons x r => exact Nat.succ_pos _
            have Fp : 0 < F.length := by
              cases F with
              | nil => exact absurd e3 (by decide)
              | cons x r => exact Nat.succ_pos _
            walk_at "go"
            refine ⟨t, a, _, rfl, T6, by rw [List.length_map]; omega, fun m H7 m0 m1 T7 B7 => ?_⟩
            rw [List.length_map] at m1
            have hX7 := B7.seqT xt hX6
            have hd7 := B7 d1 _ dt1.1 hd6
            have he7 := B7 e _ et.1 h6
            obtain ⟨x, hx, hx2⟩ := atI_map (f := V.str) (xs := fx) m0 (by omega)
            obtain ⟨z0, hz0⟩ : ∃ z, F[0]? = some z := ⟨_, List.getElem?_eq_getElem Fp⟩
            have ez : atI (F.map V.str) 0 = some (.str z0) := at_nat (i := 0) (by rw [List.getElem?_map, hz0]; rfl)
            walk_at "go"
            refine l_setDS he7 (fits_lt (by rw [List.length_zip]; omega)) ?_
            have k7 := TK.but B7 ⟨a, T6⟩
            refine hN _ _ ⟨F.zip cz ++ [(z0, x)], rfl, upd_same, fun p hp => ?_, T7.put et.1 et.2, ?_, (TK.putD he7).sq hX7, ?_, Dp.keep (TK.putD he7) _ _ (rec_pu R) (Dp.keep k7 _ _ (rec_pu R) hR6)⟩
            · rcases List.mem_append.mp hp with h | h
              · exact ok0 p h
              · rw [List.mem_singleton.mp h]; exact ox x (List.mem_of_getElem? hx2)
            · exact fun b o nb hb => by rw [upd_ne (ne_of_none hb ne0)]; exact B7 b o nb (B6 b o nb hb)
            · have h7 := B7.seq zt hZ6
              rcases h7 with (h | ⟨o, h⟩) | h
              · exact .inl (.inl (by rw [upd_ne (fun z => by rw [z, he7] at h; cases h)]; exact h))
              · exact .inl (.inr ⟨o, by rw [upd_ne (fun z => by rw [z, he7] at h; cases h)]; exact h⟩)
              · exact .inr h
          · walk_at "go"
            exact hN _ _ ⟨F.zip cz, rfl, h6, ok0, T6, B6, hX6, hZ6, hR6⟩
        · walk_at "go"
          exact hN _ _ ⟨F.zip cz, rfl, h6, ok0, T6, B6, hX6, hZ6, hR6⟩
      · walk_at "go"
        exact hN _ _ ⟨F.zip cz, rfl, h6, ok0, T6, B6, hX6, hZ6, hR6⟩
    clear h6 S6 T6 hX6 hd6 B6 hZ6 hR6 n6 hd5 hc5 B45 k5 hR5 hX5 hZ5 T5 B5 hd4 hX4 hZ4 hR4 k4
    rintro σ' H6 ⟨prs, rfl, h6, pok, T6, B6, hX6, hZ6, hR6⟩
    walk_at "go"
    refine ⟨v0, R, e, prs, rfl, hR6, h6, by omega, by omega, fun v H7 S7 hv => ?_⟩
    have oS := recSub_good oR pok
    have Sl := rsub_len (look prs) R
    have Sc := celN_sub (look prs) R
    generalize recSub (look prs) R = S at hv oS Sl Sc
    have T7 := T6.same S7
    have hZ7 := S7.seq hZ6
    have B7 := B6.trans (Same.but S7)
    refine l_gname ?_
    with_reducible refine' l_cut (fun σ' H' => ∃ (S : List CRow) (v : V) (y : Option V), σ' = [some (.ref t), some v0, some (.ref pt), some (.ref pc), some (.int ch), some (.ref d1), some (.ref g), none, some (.ref c), some (.ref e), some v, y] ∧ Dp K H' v (recD S) ∧ AllC (GoodV zs) S ∧ celN S ≤ 24 ∧ (1 ≤ S.length ∧ S.length ≤ 11) ∧ (ch ≠ 5 → S.length = R.length ∧ celN S = celN R) ∧ Tape H' t a ∧ But t H H' ∧ SqL K H' pt (zs.map V.str)) (fun N hN => ?_) ?_
    · walk_at "go"
      refine l_if (fun e1 => ?_) (fun e1 => ?_)
      · obtain ⟨pn, xn, rfl, hn, An⟩ := dp_tup hv
        have xl2 : xn.length = S.length := by rw [An.len, List.length_map]
        walk_at "go"
        refine ⟨t, a, _, rfl, T7, by omega, fun pl H8 p0 p1 T8 B8 => ?_⟩
        have k8 := TK.but B8 ⟨a, T7⟩
        have hn8 := k8.sq hn
        have An8 := DpAll.keep k8 _ _ (rows_pu S) An
        obtain ⟨k, rfl⟩ := Int.eq_ofNat_of_zero_le p0
        have hZ8 := B8.seq zt hZ7
        have B08 := B7.trans B8
        walk_at "go"
        refine l_part ?_
        walk_at "go"
        refine ⟨_, rfl, ?_⟩
        refine l_slA hn8 fun r1 H9 S9 h9 => ?_
        rw [cut_hi (by omega) (by omega), Int.toNat_natCast] at h9
        walk_at "go"
        refine ⟨by show 1 ≤ sizeLine; decide, fun r2 m2 => ?_⟩
        have s10 := new_same (o := .tup [V.non]) m2
        refine l_catA (s10.seqT h9) (sqT upd_same) (by simp; omega) fun r3 H11 S11 h11 => ?_
        have S811 := (S9.trans s10).trans S11
        have hn11 := S811.seqT hn8
        walk_at "go"
        refine l_part ?_
        walk_at "go"
        refine ⟨_, rfl, ?_⟩
        refine l_np ?_
        refine l_slA hn11 fun r4 H12 S12 h12 => ?_
        rw [cut_lo (by omega) (by omega), show ((k : Int) + 1).toNat = k + 1 by omega] at h12
        refine l_catA (S12.seqT h11) h12 (by simp; omega) fun r5 H13 S13 h13 => ?_
        have S813 := (S811.trans S12).trans S13
        have hn13 := S813.seqT hn8
        walk_at "go"
        refine ⟨by show 1 ≤ sizeLine; decide, fun r6 m6 => ?_⟩
        have s14 := new_same (o := .tup [V.non]) m6
        refine l_catA (s14.seqT hn13) (sqT upd_same) (by simp; omega) fun r7 H15 S15 h15 => ?_
        have S815 := (S813.trans s14).trans S15
        have hn15 := S815.seqT hn8
        have h13b := (s14.trans S15).seqT h13
        walk_at "go"
        refine l_part ?_
        walk_at "go"
        refine ⟨_, rfl, ?_⟩
        refine l_np ?_
        refine l_slA hn15 fun r8 H16 S16 h16 => ?_
        rw [cut_lo (by omega) (by omega)] at h16
        have hn16 := S16.seqT hn15
        walk_at "go"
        refine l_part ?_
        walk_at "go"
        refine ⟨_, rfl, ?_⟩
        refine l_slA hn16 fun r9 H17 S17 h17 => ?_
        rw [cut_hi (by omega) (by omega)] at h17
        refine l_catA (S17.seqT h16) h17 (by simp; omega) fun r10 H18 S18 h18 => ?_
        have S1518 := (S16.trans S17).trans S18
        have h13c := S1518.seqT h13b
        have h15c := S1518.seqT h15
        have S818 := S815.trans S1518
        walk_at "go"
        refine ⟨by show 3 ≤ sizeLine; decide, fun l3 m3 => ?_⟩
        have s19 := new_same (o := .lst [V.ref r5, .ref r7, .ref r10]) m3
        have T19 := (T8.same S818).same s19
        have lt := (T8.same S818).ne m3
        walk_at "go"
        refine ⟨t, a, 3, rfl, T19, by decide, fun w H20 w0 w1 T20 B20 => ?_⟩
        have S819 := S818.trans s19
        have k20 := TK.but B20 ⟨a, T19⟩
        have A20 := DpAll.keep ((TK.of_same S819).trans k20) _ _ (rows_pu S) An8
        have g13 := k20.sq (s19.seqT h13c)
        have g15 := k20.sq (s19.seqT h15c)
        have g18 := k20.sq (s19.seqT h18)
        have hl20 := B20 l3 _ lt.1 upd_same
        have B020 := (B08.trans (Same.but S819)).trans B20
        have hZ20 := B20.seq zt (S819.seq hZ8)
        have Stl := celN_cut1 S k
        have Stc := celN_cut S 1
        have Sdl := celN_drop_le S (k + 1)
        have Sd1 := celN_drop_le S 1
        have St1 := celN_take S 1
        have fin : ∀ (Z : List CRow) (r : Addr), atI [V.ref r5, .ref r7, .ref r10] w = some (.ref r) → Dp K H20 (.ref r) (recD Z) → AllC (GoodV zs) Z → celN Z ≤ 24 → (1 ≤ Z.length ∧ Z.length ≤ 11) → rIxL K (.ref l3) (.int w) H20 fun x H1 => gName 10 x ([some (.ref t), some v0, some (.ref pt), some (.ref pc), some (.int ch), some (.ref d1), some (.ref g), none, some (.ref c), some (.ref e), some (.ref pn), some (.int k)]) H1 N := fun Z r er hz ho hc hl => by
          refine l_ixL (sqL hl20) er ?_
          refine l_gname ?_
          exact hN _ _ ⟨Z, .ref r, _, rfl, hz, ho, hc, hl, fun x => absurd e1 x, T20, B020, hZ20⟩
        have nn : ∀ X : List CRow, celN ([none] ++ X) = celN X := fun X => by rw [celN_app]; exact Nat.zero_add _
        have nz : celN [(none : CRow)] = 0 := rfl
        rcases (show w = 0 ∨ w = 1 ∨ w = 2 by omega) with rfl | rfl | rfl
        · refine fin (S.take k ++ [none] ++ S.drop (k + 1)) r5 rfl (.tup g13 ?_) ((AllC.app (oS.sub fun r hr => List.mem_of_mem_take hr) AllC.none1).app (oS.sub fun r hr => List.mem_of_mem_drop hr)) ?_ ?_
          · rw [List.map_append, List.map_append, List.map_take, List.map_drop]
            exact dpAll_app (dpAll_app (dpAll_take k A20) (.cons .non .nil)) (dpAll_drop (k + 1) A20)
          · rw [celN_app, celN_app, nz]; omega
          · rw [List.length_append, List.length_append, List.length_take, List.length_drop, List.length_singleton]; omega
        · refine fin (S ++ [none]) r7 rfl (.tup g15 ?_) (oS.app AllC.none1) ?_ ?_
          · rw [List.map_append]
            exact dpAll_app A20 (.cons .non .nil)
          · rw [celN_app, nz]; omega
          · rw [List.length_append, List.length_singleton]; omega
        · refine fin (S.drop 1 ++ S.take 1) r10 rfl (.tup g18 ?_) ((oS.sub fun r hr => List.mem_of_mem_drop hr).app (oS.sub fun r hr => List.mem_of_mem_take hr)) ?_ ?_
          · rw [List.map_append, List.map_take, List.map_drop]
            exact dpAll_app (dpAll_drop 1 A20) (dpAll_take 1 A20)
          · rw [celN_app]; omega
          · rw [List.length_append, List.length_drop, List.length_take]; omega
      · walk_at "go"
        exact hN _ _ ⟨S, v, none, rfl, hv, oS, by omega, by omega, fun _ => ⟨Sl, Sc⟩, T7, B7, hZ7⟩
    clear hv oS Sl Sc T7 hZ7 B7 S7 hZ6 B6 T6
    clear S v
    rintro σ' H8 ⟨S, v, y, rfl, hv, oS, Sc, Sl, Se, T8, B8, hZ8⟩
    walk_at "go"
    refine l_if (fun e1 => ?_) (fun e1 => ?_)
    · obtain ⟨S1, S2⟩ := Se (by omega)
      walk_at "go"
      refine ⟨pt, _, rfl, .inl hZ8, fun l nl => ?_⟩
      have s1 := new_same (o := .lst (zs.map V.str)) nl
      have l1 : (L2.upd H8 l (.lst (zs.map V.str))) l = some (.lst (zs.map V.str)) := upd_same
      walk_at "go"
      refine ⟨by show 1 ≤ sizeLine; decide, fun r1 m1 => ?_⟩
      have s2 := new_same (o := .tup [V.str "x"]) m1
      walk_at "go"
      refine ⟨by show 1 ≤ sizeLine; decide, fun r2 m2 => ?_⟩
      have s3 := new_same (o := .tup [V.str "active"]) m2
      walk_at "go"
      refine ⟨by show 3 ≤ sizeLine; decide, fun l2 n2 => ?_⟩
      have s4 := new_same (o := .lst [V.non, .ref r1, .ref r2]) n2
      refine l_cat (s4 _ _ (s3 _ _ (s2 _ _ l1))) upd_same (fits (by simp; omega)) fun lc nc => ?_
      walk_at "go"
      have s5 := new_same (o := .lst (zs.map V.str ++ [V.non, .ref r1, .ref r2])) nc
      have S15 := (((s1.trans s2).trans s3).trans s4).trans s5
      have T13 := T8.same S15
      have lct := ((((T8.same s1).same s2).same s3).same s4).ne nc
      have hr1 := s5 _ _ (s4 _ _ (s3 _ _ (upd_same (H := L2.upd H8 l (.lst (zs.map V.str))) (a := r1) (o := .tup [V.str "x"]))))
      have hr2 := s5 _ _ (s4 _ _ (upd_same (H := L2.upd (L2.upd H8 l (.lst (zs.map V.str))) r1 (.tup [V.str "x"])) (a := r2) (o := .tup [V.str "active"])))
      refine ⟨t, a, v, S, lc, _, zs.map Cel.txt ++ [.null, .val "x", .val "active"], GoodV zs, rfl, T13, Dp.keep (TK.of_same S15) _ _ (rec_pu S) hv, by omega, by omega, by omega, oS, sqL upd_same, ?_, fun d hd => ?_, ?_, ?_, lct.1, fun Z w H14 hw oZ cZ lZ B14 T14 => ?_⟩
      · rw [List.map_append]
        exact dpAll_app (dp_txts zs) (.cons .non (.cons (.tup (sqT hr1) (.cons (.str _) .nil)) (.cons (.tup (sqT hr2) (.cons (.str _) .nil)) .nil)))
      · rcases List.mem_append.mp hd with h | h
        · obtain ⟨z, hz, rfl⟩ := List.mem_map.mp h
          exact hz
        · have : ∀ d ∈ [Cel.null, .val "x", .val "active"], CelOk d = true ∧ d.isT = false := by decide +kernel
          have e := this d h
          cases d with
          | null => exact trivial
          | txt z => exact Bool.noConfusion (show true = false from e.2)
          | val n => exact e.1
      · simp
      · simp; omega
      · walk_at "go"
        show Q _ _
        exact q Z w H14 hw oZ (by omega) (by omega) ((B8.trans (Same.but S15)).trans B14) T14
    · walk_at "go"
      show Q _ _
      exact q S v H8 hv oS Sc Sl B8 T8
end
end K06
namespace K06
open PySem PySem.Spec PyProof.Rows L2 Tq
section
variable {P : Program} {w : World} {K : PySem.W.Frag} {mg : Str → Option Value} {base : Heap}
def spMatch (K : PySem.W.Frag) : Sp := fun vs H Q _ => ∃ (v0 v1 : V) (R S : List CRow) (p0 : Addr) (fx : List Str), vs = [v0, v1, .ref p0] ∧ Dp K H v0 (recD R) ∧ Dp K H v1 (recD S) ∧ RecOk R ∧ RecOk S ∧ celN R ≤ 900 ∧ R.length ≤ 1000 ∧ celN S ≤ 900 ∧ S.length ≤ 1000 ∧ SqT K H p0 (fx.map V.str) ∧ fx.length ≤ 900 ∧
  (mrec fx [] R S = none → ∀ H', Same H H' → Q .non H') ∧
  (∀ acc, MInv fx acc → mrec fx [] R S = some acc → ∀ (p : Addr) (ps : List Addr) (H' : Hp), Same H H' → H' p = some (.tup (ps.map V.ref)) → PairsT K H' ps acc → Q (.ref p) H')

theorem ok_law_matching (D : Ds K mg) (T : Txt mg) : FnOk P w K mg base CX0 1 D.law_matching.f D.law_matching.fd ["first", "second", "constants"] (spMatch K) := by
  have sc := sc_law_matching
  refine D.law_matching.F.ok sc (fun vs H Q E h => ?_) (fun cdv A outer s H vs Q E hr h => ?_)
  · obtain ⟨v0, v1, R, S, p0, fx, rfl, _⟩ := h
    rfl
  · obtain ⟨v0, v1, R, S, p0, fx, rfl, hR, hS, oR, oS, rl, rn, sl, sn, hq, fl, q1, q2⟩ := h
    refine ⟨_, (pss_cons (ps_if (pt_cmpR op_ne (pe_callB (k_len (K := K) rfl) (by rfl) T.b_len PySem.boot_len (pa_cons (pv 0) pa_nil)) (pe_callB (k_len (K := K) rfl) (by rfl) T.b_len PySem.boot_len (pa_cons (pv 1) pa_nil)) (nomark _)) (pss_one (ps_ret pe_non)) pss_nil)
    (pss_cons (ps_set (i := 3) sc.nd rfl (Or.inr rfl) pe_dnewK)
    (pss_cons (ps_set (i := 4) sc.nd rfl (Or.inl rfl) pe_dnewK)
    (pss_cons (ps_for PassesOwn.never rfl (pi_range1 (by rfl) T.b_range (pa_cons (pe_callB (k_len (K := K) rfl) (by rfl) T.b_len PySem.boot_len (pa_cons (pv 0) pa_nil)) pa_nil)) (pg_name (i := 5) sc.nd rfl (Or.inl rfl)) (pss_cons (ps_if (PW.pt (pw_or (pt_cmpR o_isN (pe_ix (k_ixT (K := K) rfl) (pv 0) (pv 5) (fun _ _ => rfl)) pe_non (nomark _)) (pw_or1 (pt_cmpR o_isN (pe_ix (k_ixT (K := K) rfl) (pv 1) (pv 5) (fun _ _ => rfl)) pe_non (nomark _))))) (pss_cons (ps_if (PW.pt (pw_or (pt_cmpR o_notN (pe_ix (k_ixT (K := K) rfl) (pv 0) (pv 5) (fun _ _ => rfl)) pe_non (nomark _)) (pw_or1 (pt_cmpR o_notN (pe_ix (k_ixT (K := K) rfl) (pv 1) (pv 5) (fun _ _ => rfl)) pe_non (nomark _))))) (pss_one (ps_ret pe_non)) pss_nil)
    (pss_one ps_continue)) pss_nil)
    (pss_cons (ps_if (pt_cmpR op_ne (pe_callB (k_len (K := K) rfl) (by rfl) T.b_len PySem.boot_len (pa_cons (pe_ix (k_ixT (K := K) rfl) (pv 0) (pv 5) (fun _ _ => rfl)) pa_nil)) (pe_callB (k_len (K := K) rfl) (by rfl) T.b_len PySem.boot_len (pa_cons (pe_ix (k_ixT (K := K) rfl) (pv 1) (pv 5) (fun _ _ => rfl)) pa_nil)) (nomark _)) (pss_one (ps_ret pe_non)) pss_nil)
    (pss_one (ps_for PassesOwn.never rfl (pi_range1 (by rfl) T.b_range (pa_cons (pe_callB (k_len (K := K) rfl) (by rfl) T.b_len PySem.boot_len (pa_cons (pe_ix (k_ixT (K := K) rfl) (pv 0) (pv 5) (fun _ _ => rfl)) pa_nil)) pa_nil)) (pg_name (i := 6) sc.nd rfl (Or.inl rfl)) (pss_cons (ps_set (i := 7) sc.nd rfl (Or.inl rfl) (pe_ix (k_ixT (K := K) rfl) (pe_ix (k_ixT (K := K) rfl) (pv 0) (pv 5) (fun _ _ => rfl)) (pv 6) (fun _ _ => rfl)))
    (pss_cons (ps_set (i := 8) sc.nd rfl (Or.inl rfl) (pe_ix (k_ixT (K := K) rfl) (pe_ix (k_ixT (K := K) rfl) (pv 1) (pv 5) (fun _ _ => rfl)) (pv 6) (fun _ _ => rfl)))
    (pss_cons (ps_set (i := 9) sc.nd rfl (Or.inl rfl) (pe_and (pe_callB (k_isi (K := K) rfl) (by rfl) T.b_isinstance (by decide +kernel) (pa_cons (pv 7) (pa_cons (pe_bltn (v := .ty "str") (by rfl) T.b_str (by decide +kernel) rfl) pa_nil))) (pe_one (pe_callB (k_isi (K := K) rfl) (by rfl) T.b_isinstance (by decide +kernel) (pa_cons (pv 8) (pa_cons (pe_bltn (v := .ty "str") (by rfl) T.b_str (by decide +kernel) rfl) pa_nil))))))
    (pss_one (ps_if (PW.pt (pw_and (pt_val (pv 9)) (pw_and (pt_cmpR (k_notIn (K := K) rfl) (pv 7) (pv 2) (by rfl)) (pw_and1 (pt_cmpR (k_notIn (K := K) rfl) (pv 8) (pv 2) (by rfl)))))) (pss_cons (ps_if (PW.pt (pw_or (pt_cmpR op_ne (k_getC (K := K) rfl (hu_of hr) (pv 3) (pv 7) (pv 8) ⟨by rfl, by rfl, by rfl, by rfl⟩) (pv 8) (nomark _)) (pw_or1 (pt_cmpR op_ne (k_getC (K := K) rfl (hu_of hr) (pv 4) (pv 8) (pv 7) ⟨by rfl, by rfl, by rfl, by rfl⟩) (pv 7) (nomark _))))) (pss_one (ps_ret pe_non)) pss_nil)
    (pss_cons (ps_asg (pv 8) (pg_sub (pv 3) (pv 7) (set_dict (hu_of hr))))
    (pss_one (ps_asg (pv 7) (pg_sub (pv 4) (pv 8) (set_dict (hu_of hr))))))) (pss_one (ps_if (pt_cmpR (k_neD (K := K) rfl hr.units) (pv 7) (pv 8) (nomark _)) (pss_one (ps_ret pe_non)) pss_nil))))))))))))
    (pss_one (ps_ret (pe_callTy (k_tuple (K := K) rfl) (by rfl) T.b_tuple (by decide +kernel) (pa_cons (pe_lock (pe_lc (own := [("old", 7)]) rfl sc.nd (pi_keys (pv 3)) (blkOk_by (N := ["first", "second", "constants", "there", "back", "k", "j", "old", "new", "both"]) (sc := defScope s_law_matching) (by decide +kernel)) (fun _ _ _ _ _ => (pg_name (i := 7) sc.nd rfl (Or.inl rfl))) (fun _ _ _ _ _ => pts_nil) (fun _ _ _ _ _ => (pe_tup (pa_cons (pv 7) (pa_cons (pe_dget (hu_of hr) (pv 3) (pv 7) (fun _ _ => rfl)) pa_nil)))))) pa_nil)))))))), ?_⟩
    obtain ⟨pa, xa, rfl, hSa, hAa⟩ := dp_tup hR
    obtain ⟨pb, xb, rfl, hSb, hAb⟩ := dp_tup hS
    have ea : xa.length = R.length := by rw [hAa.len, List.length_map]
    have eb : xb.length = S.length := by rw [hAb.len, List.length_map]
    walk_at "go"
    rw [ea, eb]
    refine l_ifN (fun c1 => ?_) (fun c1 => ?_)
    · walk_at "go"
      exact q1 (mrec_len (by omega)) _ (fun _ _ h => h)
    have c1 : R.length = S.length := by omega
    walk_at "go"
    intro dt nt
    walk_at "go"
    intro db nb
    have s1 := new_same (o := .dK []) nt
    have s2 := new_same (o := .dK []) nb
    have nb0 := s1.free nb
    have S02 := s1.trans s2
    have tb : dt ≠ db := ne_of_none upd_same nb
    have ht0 : (L2.upd (L2.upd H dt (.dK [])) db (.dK [])) dt = some (.dK (dicT [])) := by rw [upd_ne tb]; exact upd_same
    have hb0 : (L2.upd (L2.upd H dt (.dK [])) db (.dK [])) db = some (.dK (dicT (swp []))) := upd_same
    generalize L2.upd (L2.upd H dt (.dK [])) db (.dK []) = H0 at S02 ht0 hb0 ⊢
    clear s1 s2
    walk_at "go"
    refine l_lenT (S02.seqT hSa) ?_
    walk_at "go"
    rw [ea]
    refine ⟨_, rfl, by omega, by omega, ?_⟩
    rw [Int.toNat_natCast]
    refine for_range (fun i σ H' => ∃ (acc : List (Str × Str)) (y5 y6 y7 y8 y9 : Option V), σ = [some (.ref pa), some (.ref pb), some (.ref p0), some (.ref dt), some (.ref db), y5, y6, y7, y8, y9] ∧ MInv fx acc ∧ acc.length ≤ celN (R.take i) ∧ mrec fx [] R S = mrec fx acc (R.drop i) (S.drop i) ∧ H' dt = some (.dK (dicT acc)) ∧ H' db = some (.dK (dicT (swp acc))) ∧ Same H H')
      ⟨[], none, none, none, none, none, rfl, MInv.nil fx, Nat.zero_le _, rfl, ht0, hb0, S02⟩ ?_ ?_
    · rintro i σ H1 hi ⟨acc, y5, y6, y7, y8, y9, rfl, mi, al, me, ht, hb, S1⟩
      have z1 : (0 : Int) + (i : Int) = (i : Int) := by omega
      rw [z1]
      obtain ⟨ra, hra⟩ : ∃ r, R[i]? = some r := ⟨_, List.getElem?_eq_getElem hi⟩
      obtain ⟨rb, hrb⟩ : ∃ r, S[i]? = some r := ⟨_, List.getElem?_eq_getElem (by omega)⟩
      obtain ⟨va, xva, eva, hva⟩ := dp_of hAa hra
      obtain ⟨vb, xvb, evb, hvb⟩ := dp_of hAb hrb
      have k1 := TK.of_same S1
      have gA := S1.seqT hSa
      have gB := S1.seqT hSb
      have hva1 := Dp.keep k1 _ _ (row_pu ra) hva
      have hvb1 := Dp.keep k1 _ _ (row_pu rb) hvb
      have mat := mrec_at (fx := fx) (acc := acc) hra hrb
      have al2 := celN_take R i
      cases ra with
      | none =>
        have e0 := dp_none hva1
        subst e0
        cases rb with
        | none =>
          have e1 := dp_none hvb1
          subst e1
          walk_at "go"
          rw [decide_eq_true rfl]
          walk_at "go"
          rw [decide_eq_true rfl]
          walk_at "go"
          show ∃ acc, _
          exact ⟨acc, _, _, _, _, _, rfl, mi, by rw [celN_tk hra]; omega, by rw [me, mat]; rfl, ht, hb, S1⟩
        | some ds =>
          obtain ⟨pr, us, rfl, hus0, hUA⟩ := dp_tup hvb
          have e1 : decide (V.ref pr = V.non) = false := decide_eq_false (fun e => nomatch e)
          walk_at "go"
          rw [decide_eq_true rfl]
          walk_at "go"
          rw [decide_eq_true rfl]
          walk_at "go"
          rw [e1]
          walk_at "go"
          exact q1 (by rw [me, mat]; rfl) _ S1
      | some cs =>
        obtain ⟨pr, us, rfl, hus0, hUA⟩ := dp_tup hva
        have hus := S1.seqT hus0
        have e0 : decide (V.ref pr = V.non) = false := decide_eq_false (fun e => nomatch e)
        cases rb with
        | none =>
          have e1 := dp_none hvb1
          subst e1
          walk_at "go"
          rw [e0]
          walk_at "go"
          rw [decide_eq_true rfl]
          walk_at "go"
          rw [e0]
          walk_at "go"
          exact q1 (by rw [me, mat]; rfl) _ S1
        | some ds =>
          obtain ⟨ps, ws, rfl, hws0, hWA⟩ := dp_tup hvb
          have hws := S1.seqT hws0
          have e1 : decide (V.ref ps = V.non) = false := decide_eq_false (fun e => nomatch e)
          have ul := hUA.len
          have wl := hWA.len
          rw [List.length_map] at ul wl
          have cl := celN_row hra
          have dl := celN_row hrb
          walk_at "go"
          rw [e0]
          walk_at "go"
          rw [e1]
          walk_at "go"
          rw [ul, wl]
          refine l_ifN (fun c2 => ?_) (fun c2 => ?_)
          · walk_at "go"
            exact q1 (by rw [me, mat]; show (mcells fx acc cs ds).bind _ = none; rw [mcells_len (by omega)]; rfl) _ S1
          walk_at "go"
          rw [ul]
          refine ⟨_, rfl, by omega, by omega, ?_⟩
          rw [Int.toNat_natCast]
          refine for_range (fun j σ H' => ∃ (ac : List (Str × Str)) (y6 y7 y8 y9 : Option V), σ = [some (.ref pa), some (.ref pb), some (.ref p0), some (.ref dt), some (.ref db), some (.int i), y6, y7, y8, y9] ∧ MInv fx ac ∧ ac.length ≤ celN (R.take i) + j ∧ mcells fx acc cs ds = mcells fx ac (cs.drop j) (ds.drop j) ∧ H' dt = some (.dK (dicT ac)) ∧ H' db = some (.dK (dicT (swp ac))) ∧ Same H H')
            ⟨acc, _, _, _, _, rfl, mi, by omega, rfl, ht, hb, S1⟩ ?_ ?_
          · rintro j σ H2 hj ⟨ac, y6, y7, y8, y9, rfl, mi2, al3, me2, ht2, hb2, S2⟩
            have z2 : (0 : Int) + (j : Int) = (j : Int) := by omega
            rw [z2]
            obtain ⟨ca, hca⟩ : ∃ c, cs[j]? = some c := ⟨_, List.getElem?_eq_getElem hj⟩
            obtain ⟨cb, hcb⟩ : ∃ c, ds[j]? = some c := ⟨_, List.getElem?_eq_getElem (by omega)⟩
            obtain ⟨u, xu, eu, hu0⟩ := dp_of hUA hca
            obtain ⟨v, xv, ev, hv0⟩ := dp_of hWA hcb
            have k2 := TK.of_same S2
            have gA2 := S2.seqT hSa
            have gB2 := S2.seqT hSb
            have hus2 := S2.seqT hus0
            have hws2 := S2.seqT hws0
            have hq2 := S2.seqT hq
            have hu := Dp.keep k2 _ _ (cel_pu ca) hu0
            have hv := Dp.keep k2 _ _ (cel_pu cb) hv0
            have oa := oR.at hra hca
            have ob := oS.at hrb hcb
            have mat2 := mcells_at (fx := fx) (acc := ac) hca hcb
            clear hus hws
            by_cases tt : ca.isT = true ∧ cb.isT = true
            · obtain ⟨z, rfl⟩ : ∃ z, ca = .txt z := by cases ca <;> first | exact absurd tt.1 Bool.false_ne_true | exact ⟨_, rfl⟩
              obtain ⟨y, rfl⟩ : ∃ y, cb = .txt y := by cases cb <;> first | exact absurd tt.2 Bool.false_ne_true | exact ⟨_, rfl⟩
              have e2 := dp_str hu
              subst e2
              have e3 := dp_str hv
              subst e3
              rw [mcell_tt] at mat2
              have tail : (z ∈ fx ∨ y ∈ fx) → ∀ G : Prop, (z = y → mcells fx acc cs ds = mcells fx ac (cs.drop (j + 1)) (ds.drop (j + 1)) → G) → (z ≠ y → mcells fx acc cs ds = none → G) → G := fun c G g1 g2 => by
                rw [if_pos c] at mat2
                by_cases e : z = y
                · rw [if_pos e] at mat2
                  exact g1 e (by rw [me2, mat2]; rfl)
                · rw [if_neg e] at mat2
                  exact g2 e (by rw [me2, mat2]; rfl)
              walk_at "go"
              refine l_in (.inr hq2) ?_
              walk_at "go"
              refine l_ifN (fun z1 => ?_) (fun z1 => ?_)
              · walk_at "go"
                refine l_in (.inr hq2) ?_
                walk_at "go"
                refine l_ifN (fun y1 => ?_) (fun y1 => ?_)
                · rw [if_neg (fun c => c.elim z1 y1)] at mat2
                  walk_at "go"
                  refine l_getC0 ?_
                  walk_at "go"
                  refine ⟨dt, rfl, .inl ⟨_, .inl ht2⟩, ?_⟩
                  walk_at "go"
                  refine ⟨_, .inl (dg_at ht2), ?_⟩
                  rw [mapS_getD]
                  walk_at "go"
                  refine l_ifN (fun g1 => ?_) (fun g1 => ?_)
                  · have nf : ¬ ∀ q ∈ ac, (q.1 = z ↔ q.2 = y) := fun c => g1 ((fit_iff mi2 z y).mpr c).1
                    rw [if_neg nf] at mat2
                    walk_at "go"
                    refine q1 ?_ _ S2
                    rw [me, mat]
                    show (mcells fx acc cs ds).bind _ = none
                    rw [me2, mat2]; rfl
                  · walk_at "go"
                    refine l_getC0 ?_
                    walk_at "go"
                    refine ⟨db, rfl, .inl ⟨_, .inl hb2⟩, ?_⟩
                    walk_at "go"
                    refine ⟨_, .inl (dg_at hb2), ?_⟩
                    rw [mapS_getD]
                    walk_at "go"
                    refine l_ifN (fun g2 => ?_) (fun g2 => ?_)
                    · have nf : ¬ ∀ q ∈ ac, (q.1 = z ↔ q.2 = y) := fun c => g2 ((fit_iff mi2 z y).mpr c).2
                      rw [if_neg nf] at mat2
                      walk_at "go"
                      refine q1 ?_ _ S2
                      rw [me, mat]
                      show (mcells fx acc cs ds).bind _ = none
                      rw [me2, mat2]; rfl
                    · have fit := (fit_iff mi2 z y).mp ⟨g1, g2⟩
                      rw [if_pos fit] at mat2
                      obtain ⟨mi3, _, _⟩ := mstep mi2 z1 y1 fit
                      have few : ac.length < sizeLine := fits_lt (by omega)
                      have fb : (swp ac).length < sizeLine := by unfold swp; rw [List.length_map]; exact few
                      walk_at "go"
                      refine l_setDS ht2 few ?_
                      walk_at "go"
                      refine l_setDS (by rw [upd_ne tb.symm]; exact hb2) fb ?_
                      show ∃ ac, _
                      refine ⟨_, _, _, _, _, rfl, mi3, ?_, by rw [me2, mat2]; rfl, ?_, ?_, ?_⟩
                      · split
                        · omega
                        · rw [List.length_append, List.length_singleton]; omega
                      · rw [upd_ne tb, upd_same, dicT_step mi2.nd1]
                      · rw [upd_same, ← swp_if, ← dicT_step (by rw [swp_fst]; exact mi2.nd2)]
                      · intro b o hb'
                        rw [upd_ne (ne_of_none hb' nb0), upd_ne (ne_of_none hb' nt)]
                        exact S2 _ _ hb'
                · walk_at "go"
                  refine l_neC oa ob hu hv ?_
                  walk_at "go"
                  refine tail (.inr y1) _ (fun e m => ?_) (fun e m => ?_)
                  · rw [decide_eq_true (congrArg Cel.txt e)]
                    walk_at "go"
                    exact ⟨ac, _, _, _, _, rfl, mi2, by omega, m, ht2, hb2, S2⟩
                  · rw [decide_eq_false (fun c => e (Cel.txt.inj c))]
                    walk_at "go"
                    refine q1 ?_ _ S2
                    rw [me, mat]
                    show (mcells fx acc cs ds).bind _ = none
                    rw [m]; rfl
              · walk_at "go"
                refine l_neC oa ob hu hv ?_
                walk_at "go"
                refine tail (.inl z1) _ (fun e m => ?_) (fun e m => ?_)
                · rw [decide_eq_true (congrArg Cel.txt e)]
                  walk_at "go"
                  exact ⟨ac, _, _, _, _, rfl, mi2, by omega, m, ht2, hb2, S2⟩
                · rw [decide_eq_false (fun c => e (Cel.txt.inj c))]
                  walk_at "go"
                  refine q1 ?_ _ S2
                  rw [me, mat]
                  show (mcells fx acc cs ds).bind _ = none
                  rw [m]; rfl
            · rw [mcell_ne tt] at mat2
              have tail : ∀ G : Prop, (ca = cb → mcells fx acc cs ds = mcells fx ac (cs.drop (j + 1)) (ds.drop (j + 1)) → G) → (ca ≠ cb → mcells fx acc cs ds = none → G) → G := fun G g1 g2 => by
                by_cases e : ca = cb
                · rw [if_pos e] at mat2
                  exact g1 e (by rw [me2, mat2]; rfl)
                · rw [if_neg e] at mat2
                  exact g2 e (by rw [me2, mat2]; rfl)
              walk_at "go"
              refine l_isCel hu ?_
              walk_at "go"
              refine l_if2 (fun d1 => ?_) (fun d1 => ?_)
              · walk_at "go"
                refine l_isCel hv ?_
                have d2 : cb.isT = false := by
                  cases h : cb.isT
                  · rfl
                  · exact absurd ⟨d1, h⟩ tt
                rw [d2]
                walk_at "go"
                refine l_neC oa ob hu hv ?_
                walk_at "go"
                refine tail _ (fun e m => ?_) (fun e m => ?_)
                · rw [decide_eq_true e]
                  walk_at "go"
                  exact ⟨ac, _, _, _, _, rfl, mi2, by omega, m, ht2, hb2, S2⟩
                · rw [decide_eq_false e]
                  walk_at "go"
                  refine q1 ?_ _ S2
                  rw [me, mat]
                  show (mcells fx acc cs ds).bind _ = none
                  rw [m]; rfl
              · walk_at "go"
                refine l_neC oa ob hu hv ?_
                walk_at "go"
                refine tail _ (fun e m => ?_) (fun e m => ?_)
                · rw [decide_eq_true e]
                  walk_at "go"
                  exact ⟨ac, _, _, _, _, rfl, mi2, by omega, m, ht2, hb2, S2⟩
                · rw [decide_eq_false e]
                  walk_at "go"
                  refine q1 ?_ _ S2
                  rw [me, mat]
                  show (mcells fx acc cs ds).bind _ = none
                  rw [m]; rfl
          · rintro σ H2 ⟨ac, y6, y7, y8, y9, rfl, mi2, al3, me2, ht2, hb2, S2⟩
            rw [List.drop_of_length_le (Nat.le_refl _), List.drop_of_length_le (by omega)] at me2
            show ∃ acc, _
            refine ⟨ac, _, _, _, _, _, rfl, mi2, by rw [celN_tk hra]; exact al3, ?_, ht2, hb2, S2⟩
            rw [me, mat]
            show (mcells fx acc cs ds).bind _ = _
            rw [me2]; rfl
    · rintro σ H1 ⟨acc, y5, y6, y7, y8, y9, rfl, mi, al, me, ht, hb, S1⟩
      rw [List.drop_of_length_le (Nat.le_refl _), List.drop_of_length_le (by omega)] at me
      have me : mrec fx [] R S = some acc := me
      have dn := dicT_nd acc mi.nd1
      have ac := celN_take R R.length
      walk_at "go"
      refine l_lockE ht trivial fun od => ?_
      walk_at "go"
      refine l_ikeys ?_
      walk_at "go"
      refine ⟨dt, od, rfl, .inl ⟨_, upd_same, fun c nc => ?_⟩⟩
      have cd : c ≠ dt := fun e => by rw [e, upd_same] at nc; cases nc
      have nc1 : H1 c = none := by rwa [upd_ne cd] at nc
      refine lc_keys (fun i H' => ∃ ps : List Addr, H' c = some (.lst (ps.map V.ref)) ∧ PairsT K H' ps (acc.take i) ∧ H' dt = some (.frz od (.dK (dicT acc))) ∧ (∀ b o, b ≠ dt → H1 b = some o → H' b = some o)) ⟨[], upd_same, .nil, by rw [upd_ne cd.symm]; exact upd_same, fun b o nb hb' => by rw [upd_ne (ne_of_none hb' nc1), upd_ne nb]; exact hb'⟩ ?_ ?_ ?_
      · rintro i H' _ ⟨ps, _, _, h, _⟩
        exact h
      · rintro i k v H' hk ⟨ps, hc, hP, hf, B⟩
        rw [dn, List.getElem?_map] at hk
        obtain ⟨⟨z, y⟩, hz, e⟩ := Option.map_eq_some_iff.mp hk
        cases e
        have lk : look acc z = some y := mi.look (List.mem_of_getElem? hz)
        have pl := hP.len
        rw [List.length_take] at pl
        walk_at "go"
        refine ⟨rfl, ?_⟩
        walk_at "go"
        refine l_dg0 ?_
        walk_at "go"
        refine ⟨dt, _, rfl, dg_frz hf lk, ?_⟩
        walk_at "go"
        refine ⟨by show 2 ≤ sizeLine; decide, fun t1 nt1 => ?_⟩
        have s3 := new_same (o := .tup [V.str z, .str y]) nt1
        have hc3 := s3 _ _ hc
        refine ⟨_, hc3, fits_lt (by rw [List.length_map]; omega), ps ++ [t1], by rw [upd_same, List.map_append]; rfl, ?_, by rw [upd_ne cd.symm]; exact s3 _ _ hf, fun b o nb hb' => ?_⟩
        · have e1 : acc.take (i + 1) = acc.take i ++ [(z, y)] := by rw [List.take_add_one, hz]; rfl
          rw [e1]
          exact ((hP.keep (TK.of_same s3)).keep (TK.put hc3)).snoc ((TK.put hc3).sq (sqT upd_same))
        · rw [upd_ne (ne_of_none hb' nc1)]
          exact s3 _ _ (B b o nb hb')
      · rintro H' ⟨ps, hc, hP, hf, B⟩
        rw [dn, List.length_map, List.take_length] at hP
        refine ⟨hf, ?_⟩
        walk_at "go"
        refine l_tupL (sqL (by rw [upd_ne cd]; exact hc)) fun r nr => ?_
        show Q _ _
        refine q2 acc mi me r ps _ (fun b o hb' => ?_) upd_same (((hP.keep (TK.frz hf))).keep (TK.new nr))
        have nb := ne_of_none hb' nt
        have h1 := B b o nb (S1 _ _ hb')
        have h2 : (L2.upd H' dt (.dK (dicT acc))) b = some o := by rw [upd_ne nb]; exact h1
        exact new_same nr _ _ h2
end
end K06
namespace K06
open PySem PySem.Spec PyProof.Rows L2 Tq
section
variable {P : Program} {w : World} {K : PySem.W.Frag} {mg : Str → Option Value} {base : Heap}
def spBoth (K : PySem.W.Frag) : Sp := fun vs H Q _ => ∃ (v0 v1 : V) (R S : List CRow) (p0 : Addr) (fx : List Str), vs = [v0, v1, .ref p0] ∧ Dp K H v0 (recD R) ∧ Dp K H v1 (recD S) ∧ RecOk R ∧ RecOk S ∧ celN R ≤ 900 ∧ R.length ≤ 1000 ∧ celN S ≤ 900 ∧ S.length ≤ 1000 ∧ SqT K H p0 (fx.map V.str) ∧ fx.length ≤ 900 ∧ ∀ H', Same H H' → Q (.bl true) H'

theorem ok_law_both (D : Ds K mg) (T : Txt mg) : FnOk P w K mg base CX0 6 D.law_both.f D.law_both.fd ["first", "second", "constants"] (spBoth K) := by
  have sc := sc_law_both
  refine D.law_both.F.ok sc (fun vs H Q E h => ?_) (fun cdv A outer s H vs Q E hr h => ?_)
  · obtain ⟨v0, v1, R, S, p0, fx, rfl, _⟩ := h
    rfl
  · obtain ⟨v0, v1, R, S, p0, fx, rfl, hR, hS, oR, oS, rl, rn, sl, sn, hq, fl, q⟩ := h
    refine ⟨_, (pss_cons (ps_set (i := 3) sc.nd rfl (Or.inl rfl) (pe_call (ok_law_matching D T) (hr.mono (by decide)) (by rfl) D.law_matching.g D.law_matching.F.kp D.law_matching.b .nil pass0 (pa_cons (pv 0) (pa_cons (pv 1) (pa_cons (pv 2) pa_nil)))))
    (pss_cons (ps_set (i := 4) sc.nd rfl (Or.inl rfl) (pe_call (ok_renamingQ D T) hr (by rfl) D.renamingQ.g D.renamingQ.F.kp D.renamingQ.b .nil pass0 (pa_cons (pv 0) (pa_cons (pv 1) (pa_cons (pv 2) pa_nil)))))
    (pss_cons (ps_set (i := 5) sc.nd rfl (Or.inl rfl) (pe_cmpR (k_eqD (K := K) rfl hr.units) (pe_call (ok_canonical D T) (hr.mono (by decide)) (by rfl) D.canonical.g D.canonical.F.kp D.canonical.b .nil pass0 (pa_cons (pv 0) (pa_cons (pv 2) pa_nil))) (pe_call (ok_canonical D T) (hr.mono (by decide)) (by rfl) D.canonical.g D.canonical.F.kp D.canonical.b .nil pass0 (pa_cons (pv 1) (pa_cons (pv 2) pa_nil))) (nomark _)))
    (pss_cons (ps_if (pt_cmpR o_isN (pv 3) pe_non (nomark _)) (pss_one (ps_ret (pe_and (pe_cmpR o_isN (pv 4) pe_non (nomark _)) (pe_one (pe_not (pv 5)))))) pss_nil)
    (pss_one (ps_ret (pe_and (pe_cmpR (k_eqD (K := K) rfl hr.units) (pv 4) (pv 3) (nomark _)) (pe_one (pv 5))))))))), ?_⟩
    walk_at "go"
    have iff := mrec_iff (fx := fx) (R := R) (S := S)
    have oc := canon_ok (fx := fx) oR
    have od := canon_ok (fx := fx) oS
    have cR := celN_canon fx R
    have lR := canon_len fx R
    refine ⟨v0, v1, R, S, p0, fx, rfl, hR, hS, oR, oS, by omega, by omega, by omega, by omega, hq, fl, fun mn H1 S1 => ?_, fun acc mi ms p ps H1 S1 hp hP => ?_⟩
    · have nc : ¬ canon fx R = canon fx S := by
        rcases iff with ⟨_, e, _⟩ | ⟨h, _⟩
        · rw [mn] at e; cases e
        · exact h
      have hR1 := Dp.keep (TK.of_same S1) _ _ (rec_pu R) hR
      have hS1 := Dp.keep (TK.of_same S1) _ _ (rec_pu S) hS
      have hq1 := S1.seqT hq
      walk_at "go"
      refine ⟨v0, v1, R, S, p0, fx, rfl, hR1, hS1, oR, oS, by omega, by omega, by omega, by omega, hq1, fl, fun _ H2 S2 => ?_, fun c => absurd c nc⟩
      have hR2 := Dp.keep (TK.of_same S2) _ _ (rec_pu R) hR1
      have hS2 := Dp.keep (TK.of_same S2) _ _ (rec_pu S) hS1
      have hq2 := S2.seqT hq1
      walk_at "go"
      refine ⟨v0, R, p0, fx, rfl, hR2, by omega, by omega, hq2, fl, fun w1 H3 S3 h3 => ?_⟩
      have hS3 := Dp.keep (TK.of_same S3) _ _ (rec_pu S) hS2
      walk_at "go"
      refine ⟨v1, S, p0, fx, rfl, hS3, by omega, by omega, S3.seqT hq2, fl, fun w2 H4 S4 h4 => ?_⟩
      walk_at "go"
      refine l_eqR oc od (Dp.keep (TK.of_same S4) _ _ (rec_pu _) h3) h4 ?_
      rw [decide_eq_false nc]
      walk_at "go"
      rw [decide_eq_true rfl]
      walk_at "go"
      rw [decide_eq_true rfl]
      walk_at "go"
      exact q _ (((S1.trans S2).trans S3).trans S4)
    · obtain ⟨ce, me, se⟩ : canon fx R = canon fx S ∧ mrec fx [] R S = some ((freeT fx R).zip (freeT fx S)) ∧ S = recSub (look ((freeT fx R).zip (freeT fx S))) R := by
        rcases iff with h | ⟨_, h⟩
        · exact h
        · first
            | (rw [ms] at h; cases h)
            | (rw [h] at ms; cases ms)
      have ea : acc = (freeT fx R).zip (freeT fx S) := by
        rw [ms] at me
        exact Option.some.inj me
      have okR : ∀ z ∈ freeT fx R, PyData.strOk z = true := fun z hz => recT_ok oR z (freeT_mem.mp hz).1
      have okS : ∀ z ∈ freeT fx S, PyData.strOk z = true := fun z hz => recT_ok oS z (freeT_mem.mp hz).1
      have ok1 : ∀ q ∈ (freeT fx R).zip (freeT fx S), PyData.strOk q.1 = true ∧ PyData.strOk q.2 = true := fun q hq => ⟨okR _ (List.of_mem_zip hq).1, okS _ (List.of_mem_zip hq).2⟩
      subst ea
      have hR1 := Dp.keep (TK.of_same S1) _ _ (rec_pu R) hR
      have hS1 := Dp.keep (TK.of_same S1) _ _ (rec_pu S) hS
      have hq1 := S1.seqT hq
      walk_at "go"
      refine ⟨v0, v1, R, S, p0, fx, rfl, hR1, hS1, oR, oS, by omega, by omega, by omega, by omega, hq1, fl, fun c => absurd ce c, fun _ p2 ps2 H2 S2 hp2 hP2 => ?_⟩
      have hR2 := Dp.keep (TK.of_same S2) _ _ (rec_pu R) hR1
      have hS2 := Dp.keep (TK.of_same S2) _ _ (rec_pu S) hS1
      have hq2 := S2.seqT hq1
      walk_at "go"
      refine ⟨v0, R, p0, fx, rfl, hR2, by omega, by omega, hq2, fl, fun w1 H3 S3 h3 => ?_⟩
      have hS3 := Dp.keep (TK.of_same S3) _ _ (rec_pu S) hS2
      walk_at "go"
      refine ⟨v1, S, p0, fx, rfl, hS3, by omega, by omega, S3.seqT hq2, fl, fun w2 H4 S4 h4 => ?_⟩
      have e0 : decide (V.ref p = V.non) = false := decide_eq_false (fun e => nomatch e)
      have S24 := S3.trans S4
      walk_at "go"
      refine l_eqR oc od (Dp.keep (TK.of_same S4) _ _ (rec_pu _) h3) h4 ?_
      rw [decide_eq_true ce]
      walk_at "go"
      rw [e0]
      walk_at "go"
      refine l_eqPairs ok1 (sqT (S24 _ _ hp2)) (hP2.keep (TK.of_same S24)) (sqT (S24 _ _ (S2 _ _ hp))) (hP.keep (TK.of_same (S2.trans S24))) ?_
      walk_at "go"
      exact q _ ((S1.trans S2).trans S24)
end
end K06
namespace K06
open PySem PySem.Spec PyProof.Rows L2 Tq
section
variable {P : Program} {w : World} {K : PySem.W.Frag} {mg : Str → Option Value} {base : Heap}
def spLaw (K : PySem.W.Frag) : Sp := fun vs H Q _ => ∃ (a : Addr) (ns : List Int), vs = [.ref a] ∧ SqL K H a (ns.map V.int) ∧ ns.length ≤ 63 ∧ ∀ H', Q (.bl true) H'

theorem ok_law (D : Ds K mg) (T : Txt mg) : FnOk P w K mg base CX0 7 D.law.f D.law.fd ["script"] (spLaw K) := by
  have sc := sc_law
  refine D.law.F.ok sc (fun vs H Q E h => ?_) (fun cdv A outer s H vs Q E hr h => ?_)
  · obtain ⟨s0, ns, rfl, _⟩ := h
    rfl
  · obtain ⟨s0, ns, rfl, hS, few, q⟩ := h
    refine ⟨_, (pss_cons (ps_set (i := 1) sc.nd rfl (Or.inl rfl) (pe_call (ok_law_tape D T) (hr.mono (by decide)) (by rfl) D.law_tape.g D.law_tape.F.kp D.law_tape.b .nil pass0 (pa_cons (pv 0) pa_nil)))
    (pss_cons (ps_set (i := 2) sc.nd rfl (Or.inl rfl) (pe_call (ok_law_known D T) (hr.mono (by decide)) (by rfl) D.law_known.g D.law_known.F.kp D.law_known.b .nil pass0 (pa_cons (pv 1) (pa_cons pe_int pa_nil))))
    (pss_cons (ps_set (i := 3) sc.nd rfl (Or.inl rfl) (pe_call (ok_law_texts D T) (hr.mono (by decide)) (by rfl) D.law_texts.g D.law_texts.F.kp D.law_texts.b .nil pass0 (pa_cons (pv 1) (pa_cons (pe_op o_add pe_int (pe_call (ok_law_draw D T) (hr.mono (by decide)) (by rfl) D.law_draw.g D.law_draw.F.kp D.law_draw.b .nil pass0 (pa_cons (pv 1) (pa_cons pe_int pa_nil)))) (pa_cons (pe_callTy (k_list (K := K) rfl) (by rfl) T.b_list (by decide +kernel) (pa_cons (pv 2) pa_nil)) pa_nil)))))
    (pss_cons (ps_set (i := 4) sc.nd rfl (Or.inl rfl) (pe_call (ok_law_wild D T) (hr.mono (by decide)) (by rfl) D.law_wild.g D.law_wild.F.kp D.law_wild.b .nil pass0 (pa_cons (pv 1) (pa_cons (pe_op op_cat (pv 3) (pe_callTy (k_list (K := K) rfl) (by rfl) T.b_list (by decide +kernel) (pa_cons (pv 2) pa_nil))) pa_nil))))
    (pss_cons (ps_set (i := 5) sc.nd rfl (Or.inl rfl) (pe_slice (k_slA (K := K) rfl) (pe_call (ok_law_near D T) (hr.mono (by decide)) (by rfl) D.law_near.g D.law_near.F.kp D.law_near.b .nil pass0 (pa_cons (pv 1) (pa_cons (pv 4) (pa_cons (pe_op op_cat (pv 3) (pe_callTy (k_list (K := K) rfl) (by rfl) T.b_list (by decide +kernel) (pa_cons (pv 2) pa_nil))) (pa_cons (pv 2) pa_nil))))) po_none (po_some pe_int)))
    (pss_cons (ps_set (i := 6) sc.nd rfl (Or.inl rfl) (pe_slice (k_slA (K := K) rfl) (pe_call (ok_law_near D T) (hr.mono (by decide)) (by rfl) D.law_near.g D.law_near.F.kp D.law_near.b .nil pass0 (pa_cons (pv 1) (pa_cons (pv 5) (pa_cons (pe_op op_cat (pv 3) (pe_callTy (k_list (K := K) rfl) (by rfl) T.b_list (by decide +kernel) (pa_cons (pv 2) pa_nil))) (pa_cons (pv 2) pa_nil))))) po_none (po_some pe_int)))
    (pss_cons (ps_if (PW.pt (pw_or (pt_not (pt_val (pe_call (ok_law_both D T) hr (by rfl) D.law_both.g D.law_both.F.kp D.law_both.b .nil pass0 (pa_cons (pv 4) (pa_cons (pv 5) (pa_cons (pv 2) pa_nil)))))) (pw_or1 (pt_not (pt_val (pe_call (ok_law_both D T) hr (by rfl) D.law_both.g D.law_both.F.kp D.law_both.b .nil pass0 (pa_cons (pv 5) (pa_cons (pv 6) (pa_cons (pv 2) pa_nil))))))))) (pss_one (ps_ret pe_bl)) pss_nil)
    (pss_cons (ps_if (pt_not (pt_val (pe_call (ok_law_both D T) hr (by rfl) D.law_both.g D.law_both.F.kp D.law_both.b .nil pass0 (pa_cons (pv 4) (pa_cons (pv 6) (pa_cons (pv 2) pa_nil)))))) (pss_one (ps_ret pe_bl)) pss_nil)
    (pss_cons (ps_set (i := 7) sc.nd rfl (Or.inr rfl) (pe_call (ok_renamingQ D T) (hr.mono (by decide)) (by rfl) D.renamingQ.g D.renamingQ.F.kp D.renamingQ.b .nil pass0 (pa_cons (pv 4) (pa_cons (pv 5) (pa_cons (pv 2) pa_nil)))))
    (pss_cons (ps_set (i := 8) sc.nd rfl (Or.inr rfl) (pe_call (ok_renamingQ D T) (hr.mono (by decide)) (by rfl) D.renamingQ.g D.renamingQ.F.kp D.renamingQ.b .nil pass0 (pa_cons (pv 5) (pa_cons (pv 6) (pa_cons (pv 2) pa_nil)))))
    (pss_cons (ps_if (PW.pt (pw_and (pt_cmpR o_notN (pv 7) pe_non (nomark _)) (pw_and1 (pt_cmpR o_notN (pv 8) pe_non (nomark _))))) (pss_cons (ps_set (i := 9) sc.nd rfl (Or.inl rfl) (pe_callTy (k_tuple (K := K) rfl) (by rfl) T.b_tuple (by decide +kernel) (pa_cons (pe_lc (own := [("k", 10)]) rfl sc.nd (pi_range1 (by rfl) T.b_range (pa_cons (pe_callB (k_len (K := K) rfl) (by rfl) T.b_len PySem.boot_len (pa_cons (pv 7) pa_nil)) pa_nil)) (blkOk_by (N := ["script", "tape", "constants", "others", "first", "second", "third", "before", "after", "joined", "k", "free", "text", "samples", "due"]) (sc := defScope s_law) (by decide +kernel)) (fun _ _ _ _ _ => (pg_name (i := 10) sc.nd rfl (Or.inl rfl))) (fun _ _ _ _ _ => pts_nil) (fun _ _ _ _ _ => (pe_tup (pa_cons (pe_ix (k_ixT (K := K) rfl) (pe_ix (k_ixT (K := K) rfl) (pv 7) (pv 10) (fun _ _ => rfl)) pe_int (fun _ _ => rfl)) (pa_cons (pe_ix (k_ixT (K := K) rfl) (pe_ix (k_ixT (K := K) rfl) (pv 8) (pv 10) (fun _ _ => rfl)) pe_int (fun _ _ => rfl)) pa_nil))))) pa_nil)))
    (pss_one (ps_if (pt_cmpR (k_neD (K := K) rfl hr.units) (pe_call (ok_renamingQ D T) (hr.mono (by decide)) (by rfl) D.renamingQ.g D.renamingQ.F.kp D.renamingQ.b .nil pass0 (pa_cons (pv 4) (pa_cons (pv 6) (pa_cons (pv 2) pa_nil)))) (pv 9) (nomark _)) (pss_one (ps_ret pe_bl)) pss_nil))) pss_nil)
    (pss_cons (ps_set (i := 11) sc.nd rfl (Or.inr rfl) (pe_call (ok_law_free D T) (hr.mono (by decide)) (by rfl) D.law_free.g D.law_free.F.kp D.law_free.b .nil pass0 (pa_cons (pv 4) (pa_cons (pv 2) pa_nil))))
    (pss_cons (ps_if (pt_cmpR (k_neD (K := K) rfl hr.units) (pe_call (ok_renamingQ D T) (hr.mono (by decide)) (by rfl) D.renamingQ.g D.renamingQ.F.kp D.renamingQ.b .nil pass0 (pa_cons (pv 4) (pa_cons (pv 4) (pa_cons (pv 2) pa_nil)))) (pe_callTy (k_tuple (K := K) rfl) (by rfl) T.b_tuple (by decide +kernel) (pa_cons (pe_lc (own := [("text", 12)]) rfl sc.nd (k_piL (K := K) rfl (pv 11)) (blkOk_by (N := ["script", "tape", "constants", "others", "first", "second", "third", "before", "after", "joined", "k", "free", "text", "samples", "due"]) (sc := defScope s_law) (by decide +kernel)) (fun _ _ _ _ _ => (pg_name (i := 12) sc.nd rfl (Or.inl rfl))) (fun _ _ _ _ _ => pts_nil) (fun _ _ _ _ _ => (pe_tup (pa_cons (pv 12) (pa_cons (pv 12) pa_nil))))) pa_nil)) (nomark _)) (pss_one (ps_ret pe_bl)) pss_nil)
    (pss_cons (ps_set (i := 13) sc.nd rfl (Or.inr rfl) (pe_call (ok_law_samples D T) (hr.mono (by decide)) (by rfl) D.law_samples.g D.law_samples.F.kp D.law_samples.b .nil pass0 (pa_cons (pv 2) (pa_cons (pe_callB (k_len (K := K) rfl) (by rfl) T.b_len PySem.boot_len (pa_cons (pv 11) pa_nil)) pa_nil))))
    (pss_cons (ps_set (i := 14) sc.nd rfl (Or.inl rfl) (pe_callTy (k_tuple (K := K) rfl) (by rfl) T.b_tuple (by decide +kernel) (pa_cons (pe_lc (own := [("k", 10)]) rfl sc.nd (pi_range1 (by rfl) T.b_range (pa_cons (pe_callB (k_len (K := K) rfl) (by rfl) T.b_len PySem.boot_len (pa_cons (pv 11) pa_nil)) pa_nil)) (blkOk_by (N := ["script", "tape", "constants", "others", "first", "second", "third", "before", "after", "joined", "k", "free", "text", "samples", "due"]) (sc := defScope s_law) (by decide +kernel)) (fun _ _ _ _ _ => (pg_name (i := 10) sc.nd rfl (Or.inl rfl))) (fun _ _ _ _ _ => pts_nil) (fun _ _ _ _ _ => (pe_tup (pa_cons (pe_ix (k_ixL (K := K) rfl) (pv 11) (pv 10) (fun _ _ => rfl)) (pa_cons (pe_ix (k_ixL (K := K) rfl) (pv 13) (pv 10) (fun _ _ => rfl)) pa_nil))))) pa_nil)))
    (pss_one (ps_ret (pe_cmpR (k_eqD (K := K) rfl hr.units) (pe_call (ok_renamingQ D T) (hr.mono (by decide)) (by rfl) D.renamingQ.g D.renamingQ.F.kp D.renamingQ.b .nil pass0 (pa_cons (pv 4) (pa_cons (pe_call (ok_canonical D T) (hr.mono (by decide)) (by rfl) D.canonical.g D.canonical.F.kp D.canonical.b .nil pass0 (pa_cons (pv 4) (pa_cons (pv 2) pa_nil))) (pa_cons (pv 2) pa_nil)))) (pv 14) (nomark _))))))))))))))))))), ?_⟩
    walk_at "go"
    refine ⟨s0, ns, rfl, hS, few, fun t a H1 _ T1 _ _ => ?_⟩
    walk_at "go"
    refine ⟨t, a, 4, rfl, T1, by decide, by decide, fun fx p0 H2 B2 np0 hx T2 up xt xl => ?_⟩
    have pt := (T1.ne np0).1
    walk_at "go"
    refine ⟨t, a, 6, rfl, T2, by decide, fun n H3 n0 n1 T3 B3 => ?_⟩
    have hx3 := B3 p0 _ pt hx
    walk_at "go"
    refine ⟨p0, _, rfl, .inr (sqT hx3), fun l nl => ?_⟩
    have lt := T3.ne nl
    have hx4 := new_same (o := .lst (fx.map V.str)) nl _ _ hx3
    walk_at "go"
    refine ⟨t, a, 1 + n, l, fx, rfl, T3.put lt.1 lt.2, by omega, by omega, .inl (sqL upd_same), lt.1, by omega, fun ts d H5 tl nd' nk tx B5 nd hd T5 => ?_⟩
    have dt := (T3.put (u := .lst (fx.map V.str)) lt.1 lt.2).ne nd
    have hx5 := B5 p0 _ pt hx4
    have tok : ∀ z ∈ ts ++ fx, PyData.strOk z = true := fun z hz => by
      rcases List.mem_append.mp hz with h | h
      · exact strOk_text (tx z h)
      · exact strOk_text (xt z h)
    have xin : ∀ z ∈ fx, z ∈ ts ++ fx := fun z hz => List.mem_append_right _ hz
    have tfl : (ts ++ fx).length ≤ 100 := by rw [List.length_append]; omega
    have tfn : ts ++ fx ≠ [] := fun h => by
      have : ts = [] := (List.append_eq_nil_iff.mp h).1
      rw [this] at tl
      have : (0 : Nat) = (1 + n).toNat := tl
      omega
    walk_at "go"
    refine ⟨p0, _, rfl, .inr (sqT hx5), fun l2 nl2 => ?_⟩
    have l2t := T5.ne nl2
    refine l_cat (by rw [upd_ne (ne_of_none hd nl2)]; exact hd) upd_same (fits (by rw [List.length_map, List.length_map]; omega)) fun r nr => ?_
    walk_at "go"
    have T6 := T5.put (u := .lst (fx.map V.str)) l2t.1 l2t.2
    have rt := T6.ne nr
    rw [← List.map_append]
    have s6 := (new_same (o := .lst (fx.map V.str)) nl2).trans (new_same (o := .lst ((ts ++ fx).map V.str)) nr)
    refine ⟨t, a, r, ts ++ fx, rfl, T6.put rt.1 rt.2, sqL upd_same, rt.1, tfn, by omega, fun R v H7 hR Rg Rc Rl B7 T7 => ?_⟩
    have hx7 := B7 p0 _ pt (s6 _ _ hx5)
    have hd7 := B7 d _ dt.1 (s6 _ _ hd)
    have Rv := Rg.v
    have Rok := Rg.ok tok
    clear B7 s6 T6 rt nr l2t nl2 hd hx5 hx4 hx3 B5
    clear l2 r
    walk_at "go"
    refine ⟨p0, _, rfl, .inr (sqT hx7), fun l3 nl3 => ?_⟩
    refine l_cat (by rw [upd_ne (ne_of_none hd7 nl3)]; exact hd7) upd_same (fits (by rw [List.length_map, List.length_map]; omega)) fun r3 nr3 => ?_
    walk_at "go"
    rw [← List.map_append]
    have s9 := (new_same (o := .lst (fx.map V.str)) nl3).trans (new_same (o := .lst ((ts ++ fx).map V.str)) nr3)
    have T9 := T7.same s9
    have r3t := (T7.same (new_same (o := .lst (fx.map V.str)) nl3)).ne nr3
    have hR9 := Dp.keep (TK.of_same s9) _ _ (rec_pu R) hR
    refine ⟨t, a, v, R, r3, ts ++ fx, p0, fx, rfl, T9, hR9, Rl.1, Rl.2, Rc, Rv, sqL upd_same, r3t.1, tfl, sqT (s9 _ _ hx7), pt, by omega, tok, xin, fun S0 v2 H10 hS oS Sc Sl B10 T10 => ?_⟩
    have hx10 := B10 p0 _ pt (s9 _ _ hx7)
    have hd10 := B10 d _ dt.1 (s9 _ _ hd7)
    have hR10 := Dp.keep (TK.but B10 ⟨a, T9⟩) _ _ (rec_pu R) hR9
    obtain ⟨pn, xn, rfl, hn, An⟩ := dp_tup hS
    walk_at "go"
    refine l_part ?_
    walk_at "go"
    refine ⟨_, rfl, ?_⟩
    refine l_slA hn fun r1 H11 S11 h11 => ?_
    rw [cut_any (by decide)] at h11
    have hS11 : Dp K H11 (.ref r1) (recD (S0.take 10)) := .tup h11 (by
      show DpAll K H11 _ ((S0.take 10).map rowD)
      rw [List.map_take]; exact dpAll_take 10 (DpAll.keep (TK.of_same S11) _ _ (rows_pu S0) An))
    have oS11 : AllC (GoodV (ts ++ fx)) (S0.take 10) := oS.sub fun r hr => List.mem_of_mem_take hr
    have Sc11 := Nat.le_trans (celN_take S0 10) Sc
    have Sl11 : 1 ≤ (S0.take 10).length ∧ (S0.take 10).length ≤ 10 := by rw [List.length_take]; omega
    have hx11 := S11 _ _ hx10
    have hd11 := S11 _ _ hd10
    have hR11 := Dp.keep (TK.of_same S11) _ _ (rec_pu R) hR10
    have T11 := T10.same S11
    clear hS oS Sc Sl An hn h11 hx10 hd10 hR10 T10 B10 T9 hR9 s9 r3t nr3 nl3
    generalize S0.take 10 = S at hS11 oS11 Sc11 Sl11
    generalize V.ref r1 = v2 at hS11 ⊢
    clear S0 pn r1
    walk_at "go"
    refine ⟨p0, _, rfl, .inr (sqT hx11), fun l4 nl4 => ?_⟩
    refine l_cat (by rw [upd_ne (ne_of_none hd11 nl4)]; exact hd11) upd_same (fits (by rw [List.length_map, List.length_map]; omega)) fun r4 nr4 => ?_
    walk_at "go"
    rw [← List.map_append]
    have s9 := (new_same (o := .lst (fx.map V.str)) nl4).trans (new_same (o := .lst ((ts ++ fx).map V.str)) nr4)
    have T9 := T11.same s9
    have r4t := (T11.same (new_same (o := .lst (fx.map V.str)) nl4)).ne nr4
    have hR9 := Dp.keep (TK.of_same s9) _ _ (rec_pu R) hR11
    have hS9 := Dp.keep (TK.of_same s9) _ _ (rec_pu S) hS11
    refine ⟨t, a, v2, S, r4, ts ++ fx, p0, fx, rfl, T9, hS9, Sl11.1, Sl11.2, Sc11, oS11, sqL upd_same, r4t.1, tfl, sqT (s9 _ _ hx11), pt, by omega, tok, xin, fun U0 v3 H12 hU oU Uc Ul B12 T12 => ?_⟩
    have hx12 := B12 p0 _ pt (s9 _ _ hx11)
    have hR12 := Dp.keep (TK.but B12 ⟨a, T9⟩) _ _ (rec_pu R) hR9
    have hS12 := Dp.keep (TK.but B12 ⟨a, T9⟩) _ _ (rec_pu S) hS9
    obtain ⟨pn, xn, rfl, hn, An⟩ := dp_tup hU
    walk_at "go"
    refine l_part ?_
    walk_at "go"
    refine ⟨_, rfl, ?_⟩
    refine l_slA hn fun r1 H13 S13 h13 => ?_
    rw [cut_any (by decide)] at h13
    have hU13 : Dp K H13 (.ref r1) (recD (U0.take 10)) := .tup h13 (by
      show DpAll K H13 _ ((U0.take 10).map rowD)
      rw [List.map_take]; exact dpAll_take 10 (DpAll.keep (TK.of_same S13) _ _ (rows_pu U0) An))
    have oU13 : AllC (GoodV (ts ++ fx)) (U0.take 10) := oU.sub fun r hr => List.mem_of_mem_take hr
    have Uc13 := Nat.le_trans (celN_take U0 10) Uc
    have Ul13 : (U0.take 10).length ≤ 10 := by rw [List.length_take]; omega
    have hx13 := sqT (K := K) (S13 _ _ hx12)
    have hR13 := Dp.keep (TK.of_same S13) _ _ (rec_pu R) hR12
    have hS13 := Dp.keep (TK.of_same S13) _ _ (rec_pu S) hS12
    have Sok := oS11.ok tok
    have Uok := oU13.ok tok
    clear hU oU Uc Ul An hn h13 hx12 hR12 hS12 T12 B12 T9 hR9 hS9 s9 r4t nr4 nl4 hx11 hd11 hR11 T11 hS11
    generalize U0.take 10 = U at hU13 oU13 Uc13 Ul13 Uok
    generalize V.ref r1 = v3 at hU13 ⊢
    clear U0 pn r1
    have fl9 : fx.length ≤ 900 := by omega
    have Rl2 := Rl.2
    have Sl2 := Sl11.2
    have both : ∀ (vA vB : V) (A B : List CRow) (Ha : Hp) (Qb : VK) (Eb : XK), Dp K Ha vA (recD A) → Dp K Ha vB (recD B) → RecOk A → RecOk B → celN A ≤ 24 → A.length ≤ 10 → celN B ≤ 24 → B.length ≤ 10 → SqT K Ha p0 (fx.map V.str) → (∀ H', Same Ha H' → Qb (.bl true) H') → spBoth K [vA, vB, .ref p0] Ha Qb Eb := fun vA vB A B Ha Qb Eb h1 h2 o1 o2 c1 l1 c2 l2 hq k => ⟨vA, vB, A, B, p0, fx, rfl, h1, h2, o1, o2, by omega, by omega, by omega, by omega, hq, fl9, k⟩
    have ren : ∀ (vA vB : V) (A B : List CRow) (Ha : Hp) (Qb : VK) (Eb : XK), Dp K Ha vA (recD A) → Dp K Ha vB (recD B) → RecOk A → RecOk B → celN A ≤ 24 → A.length ≤ 10 → celN B ≤ 24 → B.length ≤ 10 → SqT K Ha p0 (fx.map V.str) → (∀ y H', Same Ha H' → Told K fx A B H' y → Qb y H') → spRng K [vA, vB, .ref p0] Ha Qb Eb := fun vA vB A B Ha Qb Eb h1 h2 o1 o2 c1 l1 c2 l2 hq k => ⟨vA, vB, A, B, p0, fx, rfl, h1, h2, o1, o2, by omega, by omega, by omega, by omega, hq, fl9, fun nc H' s => k _ _ s (.inl ⟨nc, rfl⟩), fun c p ps H' s hp hP => k _ _ s (.inr ⟨c, p, ps, rfl, hp, hP⟩)⟩
    walk_at "go"
    refine both v v2 R S _ _ _ hR13 hS13 Rok Sok Rc Rl2 Sc11 Sl2 hx13 fun H14 S14 => ?_
    have hR14 := Dp.keep (TK.of_same S14) _ _ (rec_pu R) hR13
    have hS14 := Dp.keep (TK.of_same S14) _ _ (rec_pu S) hS13
    have hU14 := Dp.keep (TK.of_same S14) _ _ (rec_pu U) hU13
    have hx14 := S14.seqT hx13
    walk_at "go"
    refine both v2 v3 S U _ _ _ hS14 hU14 Sok Uok Sc11 Sl2 Uc13 Ul13 hx14 fun H15 S15 => ?_
    have hR15 := Dp.keep (TK.of_same S15) _ _ (rec_pu R) hR14
    have hS15 := Dp.keep (TK.of_same S15) _ _ (rec_pu S) hS14
    have hU15 := Dp.keep (TK.of_same S15) _ _ (rec_pu U) hU14
    have hx15 := S15.seqT hx14
    walk_at "go"
    refine both v v3 R U _ _ _ hR15 hU15 Rok Uok Rc Rl2 Uc13 Ul13 hx15 fun H16 S16 => ?_
    have hR16 := Dp.keep (TK.of_same S16) _ _ (rec_pu R) hR15
    have hS16 := Dp.keep (TK.of_same S16) _ _ (rec_pu S) hS15
    have hU16 := Dp.keep (TK.of_same S16) _ _ (rec_pu U) hU15
    have hx16 := S16.seqT hx15
    clear hR13 hS13 hU13 hx13 hR14 hS14 hU14 hx14 hR15 hS15 hU15 hx15
    refine ⟨_, rfl, ?_⟩
    refine l_ifNT ?_
    refine l_next ?_
    refine l_nx ?_
    with_reducible refine' l_cut (fun σ' H' => ∃ y7 : V, σ' = [some (.ref s0), some (.ref t), some (.ref p0), some (.ref d), some v, some v2, some v3, some y7, none, none, none, none, none, none, none] ∧ Same H16 H' ∧ Told K fx R S H' y7) (fun N hN => ?_) ?_
    · walk_at "go"
      refine ren v v2 R S _ _ _ hR16 hS16 Rok Sok Rc Rl2 Sc11 Sl2 hx16 fun y H' s td => ?_
      walk_at "go"
      exact hN _ _ ⟨y, rfl, s, td⟩
    rintro σ' H17 ⟨y7, rfl, S17, td1⟩
    have hR17 := Dp.keep (TK.of_same S17) _ _ (rec_pu R) hR16
    have hS17 := Dp.keep (TK.of_same S17) _ _ (rec_pu S) hS16
    have hU17 := Dp.keep (TK.of_same S17) _ _ (rec_pu U) hU16
    have hx17 := S17.seqT hx16
    clear hR16 hS16 hU16 hx16
    with_reducible refine' l_cut (fun σ' H' => ∃ y8 : V, σ' = [some (.ref s0), some (.ref t), some (.ref p0), some (.ref d), some v, some v2, some v3, some y7, some y8, none, none, none, none, none, none] ∧ Same H17 H' ∧ Told K fx S U H' y8) (fun N hN => ?_) ?_
    · walk_at "go"
      refine ren v2 v3 S U _ _ _ hS17 hU17 Sok Uok Sc11 Sl2 Uc13 Ul13 hx17 fun y H' s td => ?_
      walk_at "go"
      exact hN _ _ ⟨y, rfl, s, td⟩
    rintro σ' H18 ⟨y8, rfl, S18, td2⟩
    have hR18 := Dp.keep (TK.of_same S18) _ _ (rec_pu R) hR17
    have hU18 := Dp.keep (TK.of_same S18) _ _ (rec_pu U) hU17
    have hx18 := S18.seqT hx17
    have td1 := td1.same S18
    clear hR17 hS17 hU17 hx17
    have frR := freeT_len fx R
    have frS := freeT_len fx S
    have frU := freeT_len fx U
    have okR : ∀ z ∈ freeT fx R, PyData.strOk z = true := fun z hz => recT_ok Rok z (freeT_mem.mp hz).1
    have okU : ∀ z ∈ freeT fx U, PyData.strOk z = true := fun z hz => recT_ok Uok z (freeT_mem.mp hz).1
    with_reducible refine' l_cut (fun σ' H' => ∃ y9 : Option V, σ' = [some (.ref s0), some (.ref t), some (.ref p0), some (.ref d), some v, some v2, some v3, some y7, some y8, y9, none, none, none, none, none] ∧ Same H18 H') (fun N hN => ?_) ?_
    · rcases td1 with ⟨_, rfl⟩ | ⟨ce1, p1, ps1, rfl, hp1, hP1⟩
      · walk_at "go"
        rw [decide_eq_true rfl]
        walk_at "go"
        exact hN _ _ ⟨none, rfl, fun _ _ h => h⟩
      · have e1 : decide (V.ref p1 = V.non) = false := decide_eq_false (fun e => nomatch e)
        rcases td2 with ⟨_, rfl⟩ | ⟨ce2, p2, ps2, rfl, hp2, hP2⟩
        · walk_at "go"
          rw [e1]
          walk_at "go"
          rw [decide_eq_true rfl]
          walk_at "go"
          exact hN _ _ ⟨none, rfl, fun _ _ h => h⟩
        · have e2 : decide (V.ref p2 = V.non) = false := decide_eq_false (fun e => nomatch e)
          have l1 := canon_lens ce1
          have l2 := canon_lens ce2
          have pl1 := hP1.len
          have pl2 := hP2.len
          rw [List.length_zip] at pl1 pl2
          have ok3 : ∀ q ∈ (freeT fx R).zip (freeT fx U), PyData.strOk q.1 = true ∧ PyData.strOk q.2 = true := fun q hq => ⟨okR _ (List.of_mem_zip hq).1, okU _ (List.of_mem_zip hq).2⟩
          walk_at "go"
          rw [e1]
          walk_at "go"
          rw [e2]
          walk_at "go"
          rw [List.length_map]
          refine ⟨_, rfl, by omega, by omega, fun c nc => ?_⟩
          rw [Int.toNat_natCast]
          refine lc_range (fun i H' => ∃ rs : List Addr, Same H18 H' ∧ H' c = some (.lst (rs.map V.ref)) ∧ PairsT K H' rs (((freeT fx R).zip (freeT fx U)).take i)) ⟨[], new_same nc, upd_same, .nil⟩ ?_ ?_
          · rintro i H' hi ⟨rs, sm, hc, hA⟩
            have rl := hA.len
            rw [List.length_take] at rl
            obtain ⟨a1, z, y, _, g1, k1, q1⟩ := hP1.get (i := i) (by rw [List.length_zip]; omega)
            obtain ⟨a2, y', x, _, g2, k2, q2⟩ := hP2.get (i := i) (by rw [List.length_zip]; omega)
            have q1 := sm.seqT q1
            have q2 := sm.seqT q2
            have hp1' := sm _ _ hp1
            have hp2' := sm _ _ hp2
            have z1 : (0 : Int) + (i : Int) = (i : Int) := by omega
            rw [z1]
            have a0 : atI [V.str z, V.str y] 0 = some (.str z) := rfl
            have b1 : atI [V.str y', V.str x] 1 = some (.str x) := rfl
            walk_at "go"
            refine ⟨rfl, ?_⟩
            walk_at "go"
            refine ⟨by show 2 ≤ sizeLine; decide, fun t1 nt1 => ?_⟩
            have s3 := new_same (o := .tup [V.str z, .str x]) nt1
            have hc3 := s3 _ _ hc
            have zl : (freeT fx R).zip (freeT fx U) = (freeT fx R).zip (freeT fx U) := rfl
            refine ⟨_, hc3, fits_lt (by rw [List.length_map]; omega), rs ++ [t1], fun b o hb => ?_, by rw [upd_same, List.map_append]; rfl, ?_⟩
            · rw [upd_ne (ne_of_none hb nc)]
              exact s3 _ _ (sm _ _ hb)
            · have m1 := (List.getElem?_zip_eq_some.mp k1).1
              have m2 := (List.getElem?_zip_eq_some.mp k2).2
              have e3 : ((freeT fx R).zip (freeT fx U)).take (i + 1) = ((freeT fx R).zip (freeT fx U)).take i ++ [(z, x)] := by
                have e0 : ((freeT fx R).zip (freeT fx U))[i]? = some (z, x) := List.getElem?_zip_eq_some.mpr ⟨m1, m2⟩
                rw [List.take_add_one, e0]; rfl
              rw [e3]
              exact ((hA.keep (TK.of_same s3)).keep (TK.put hc3)).snoc ((TK.put hc3).sq (sqT upd_same))
          · rintro H19 ⟨rs, S19, hc, hA⟩
            rw [List.take_of_length_le (by rw [List.length_zip]; omega)] at hA
            walk_at "go"
            refine l_tupL (sqL hc) fun r nr => ?_
            have s20 := new_same (o := .tup (rs.map V.ref)) nr
            have S20 := S19.trans s20
            walk_at "go"
            refine ren v v3 R U _ _ _ (Dp.keep (TK.of_same S20) _ _ (rec_pu R) hR18) (Dp.keep (TK.of_same S20) _ _ (rec_pu U) hU18) Rok Uok Rc Rl2 Uc13 Ul13 (S20.seqT hx18) fun y H' s td => ?_
            rcases td with ⟨nc3, _⟩ | ⟨_, p3, ps3, rfl, hp3, hP3⟩
            · exact absurd (ce1.trans ce2) nc3
            walk_at "go"
            refine l_nePairs ok3 (sqT hp3) hP3 (sqT (s _ _ upd_same)) ((hA.keep (TK.of_same s20)).keep (TK.of_same s)) ?_
            walk_at "go"
            exact hN _ _ ⟨_, rfl, S20.trans s⟩
    rintro σ' H19 ⟨y9, rfl, S19⟩
    have hR19 := Dp.keep (TK.of_same S19) _ _ (rec_pu R) hR18
    have hx19 := S19.seqT hx18
    clear hR18 hU18 hx18 td1 td2
    obtain ⟨F, hF⟩ : ∃ F, F = freeT fx R := ⟨_, rfl⟩
    have cf := canon_free fx R
    have cR := celN_canon fx R
    have lR := canon_len fx R
    rw [← hF] at frR okR cf
    walk_at "go"
    refine ⟨v, R, p0, fx, rfl, hR19, by omega, .inr hx19, fun f1 H20 S20 nf hf => ?_⟩
    rw [← hF] at hf
    have hR20 := Dp.keep (TK.of_same S20) _ _ (rec_pu R) hR19
    have hx20 := S20.seqT hx19
    walk_at "go"
    refine ren v v R R _ _ _ hR20 hR20 Rok Rok Rc Rl2 Rc Rl2 hx20 fun y H21 S21 td => ?_
    rcases td with ⟨nc3, _⟩ | ⟨_, p1, ps1, rfl, hp1, hP1⟩
    · exact absurd rfl nc3
    rw [← hF, zip_self] at hP1
    have hR21 := Dp.keep (TK.of_same S21) _ _ (rec_pu R) hR20
    have hx21 := S21.seqT hx20
    have hf21 := S21 _ _ hf
    have okF : ∀ q ∈ F.map (fun z => (z, z)), PyData.strOk q.1 = true ∧ PyData.strOk q.2 = true := fun q hq => by
      obtain ⟨z, hz, rfl⟩ := List.mem_map.mp hq
      exact ⟨okR z hz, okR z hz⟩
    walk_at "go"
    refine ⟨f1, rfl, ⟨_, sqL hf21⟩, fun c nc => lc_list (xs := F.map V.str) (fun i H' => ∃ rs : List Addr, Same H21 H' ∧ H' c = some (.lst (rs.map V.ref)) ∧ PairsT K H' rs ((F.take i).map fun z => (z, z))) ⟨[], new_same nc, upd_same, .nil⟩ (fun i H' _ ⟨_, h, _⟩ => sqL (h _ _ hf21)) ?_ ?_⟩
    · rintro i x H' hx ⟨rs, sm, hc, hA⟩
      rw [List.getElem?_map] at hx
      obtain ⟨z, hz, rfl⟩ := Option.map_eq_some_iff.mp hx
      have rl := hA.len
      rw [List.length_map, List.length_take] at rl
      walk_at "go"
      refine ⟨rfl, ?_⟩
      walk_at "go"
      refine ⟨by show 2 ≤ sizeLine; decide, fun t1 nt1 => ?_⟩
      have s3 := new_same (o := .tup [V.str z, .str z]) nt1
      have hc3 := s3 _ _ hc
      refine ⟨_, hc3, fits_lt (by rw [List.length_map]; omega), rs ++ [t1], fun b o hb => ?_, by rw [upd_same, List.map_append]; rfl, ?_⟩
      · rw [upd_ne (ne_of_none hb nc)]
        exact s3 _ _ (sm _ _ hb)
      · rw [List.take_add_one, hz, List.map_append]
        exact ((hA.keep (TK.of_same s3)).keep (TK.put hc3)).snoc ((TK.put hc3).sq (sqT upd_same))
    rintro H22 ⟨rs, S22, hc, hA⟩
    rw [List.length_map, List.take_length] at hA
    walk_at "go"
    refine l_tupL (sqL hc) fun r nr => ?_
    have s23 := new_same (o := .tup (rs.map V.ref)) nr
    have S23 := S22.trans s23
    walk_at "go"
    refine l_nePairs okF (sqT (S23 _ _ hp1)) (hP1.keep (TK.of_same S23)) (sqT upd_same) (hA.keep (TK.of_same s23)) ?_
    have hR23 := Dp.keep (TK.of_same S23) _ _ (rec_pu R) hR21
    have hx23 := S23.seqT hx21
    have hf23 := S23 _ _ hf21
    generalize L2.upd H22 r (.tup (rs.map V.ref)) = H23 at hR23 hx23 hf23 ⊢
    clear hA hc S23 s23 S22 hf21 hx21 hR21 hP1 hp1 S21 hx20 hR20
    walk_at "go"
    rw [List.length_map]
    refine ⟨_, p0, fx, rfl, by omega, by omega, hx23, by omega, fun d2 H24 S24 n24 h24 => ?_⟩
    rw [Int.toNat_natCast] at h24
    obtain ⟨G, hG⟩ : ∃ G, G = firstN "v" F.length fx := ⟨_, rfl⟩
    have Gl := firstN_len "v" F.length fx
    rw [← hG] at h24 Gl cf
    have hf24 := S24 _ _ hf23
    have hR24 := Dp.keep (TK.of_same S24) _ _ (rec_pu R) hR23
    have hx24 := S24.seqT hx23
    walk_at "go"
    rw [List.length_map]
    refine ⟨_, rfl, by omega, by omega, fun c nc => ?_⟩
    rw [Int.toNat_natCast]
    refine lc_range (fun i H' => ∃ rs : List Addr, Same H24 H' ∧ H' c = some (.lst (rs.map V.ref)) ∧ PairsT K H' rs ((F.zip G).take i)) ⟨[], new_same nc, upd_same, .nil⟩ ?_ ?_
    · rintro i H' hi ⟨rs, sm, hc, hA⟩
      have rl := hA.len
      rw [List.length_take] at rl
      obtain ⟨z, hz⟩ : ∃ z, F[i]? = some z := ⟨_, List.getElem?_eq_getElem hi⟩
      obtain ⟨y, hy⟩ : ∃ y, G[i]? = some y := ⟨_, List.getElem?_eq_getElem (by omega)⟩
      have a0 : atI (F.map V.str) (i : Int) = some (.str z) := at_nat (by rw [List.getElem?_map, hz]; rfl)
      have b0 : atI (G.map V.str) (i : Int) = some (.str y) := at_nat (by rw [List.getElem?_map, hy]; rfl)
      have hf' := sm _ _ hf24
      have hg' := sm _ _ h24
      have z1 : (0 : Int) + (i : Int) = (i : Int) := by omega
      rw [z1]
      walk_at "go"
      refine ⟨rfl, ?_⟩
      walk_at "go"
      refine ⟨by show 2 ≤ sizeLine; decide, fun t1 nt1 => ?_⟩
      have s3 := new_same (o := .tup [V.str z, .str y]) nt1
      have hc3 := s3 _ _ hc
      refine ⟨_, hc3, fits_lt (by rw [List.length_map]; omega), rs ++ [t1], fun b o hb => ?_, by rw [upd_same, List.map_append]; rfl, ?_⟩
      · rw [upd_ne (ne_of_none hb nc)]
        exact s3 _ _ (sm _ _ hb)
      · have e0 : (F.zip G)[i]? = some (z, y) := List.getElem?_zip_eq_some.mpr ⟨hz, hy⟩
        rw [List.take_add_one, e0]
        exact ((hA.keep (TK.of_same s3)).keep (TK.put hc3)).snoc ((TK.put hc3).sq (sqT upd_same))
    rintro H25 ⟨rs, S25, hc, hA⟩
    rw [List.take_of_length_le (by rw [List.length_zip]; omega)] at hA
    walk_at "go"
    refine l_tupL (sqL hc) fun r nr => ?_
    have s26 := new_same (o := .tup (rs.map V.ref)) nr
    have S26 := S25.trans s26
    have hr26 : (L2.upd H25 r (.tup (rs.map V.ref))) r = some (.tup (rs.map V.ref)) := upd_same
    have hA26 := hA.keep (TK.of_same s26)
    have hR26 := Dp.keep (TK.of_same S26) _ _ (rec_pu R) hR24
    have hx26 := S26.seqT hx24
    generalize L2.upd H25 r (.tup (rs.map V.ref)) = H26 at hr26 hA26 hR26 hx26 ⊢
    walk_at "go"
    refine ⟨v, R, p0, fx, rfl, hR26, by omega, by omega, hx26, by omega, fun w H27 S27 hw => ?_⟩
    walk_at "go"
    refine ren v w R (canon fx R) _ _ _ (Dp.keep (TK.of_same S27) _ _ (rec_pu R) hR26) hw Rok (canon_ok Rok) Rc Rl2 (by omega) (by omega) (S27.seqT hx26) fun y H28 S28 td => ?_
    rcases td with ⟨nc3, _⟩ | ⟨_, p1, ps1, rfl, hp1, hP1⟩
    · exact absurd (canon_twice ..).symm nc3
    rw [← hF, cf] at hP1
    have okG : ∀ q ∈ F.zip G, PyData.strOk q.1 = true ∧ PyData.strOk q.2 = true := fun q hq => by
      refine ⟨okR _ (List.of_mem_zip hq).1, ?_⟩
      rw [hG] at hq
      obtain ⟨k, e, _⟩ := firstN_ok _ (List.of_mem_zip hq).2
      rw [e]
      exact strOk_nm (by decide +kernel) k
    walk_at "go"
    refine l_eqPairs okG (sqT hp1) hP1 (sqT (S28 _ _ (S27 _ _ hr26))) ((hA26.keep (TK.of_same S27)).keep (TK.of_same S28)) ?_
    exact q _
end
end K06
namespace K06
open PySem PySem.Spec PyProof.Rows L2 Tq
theorem all_mk {l : PySem.W.OpenLaw} {w : World} {K : PySem.W.Frag} {h : Heap} {mg : Str → Option Value} {fa : Addr} (X : K.In h) (G : h.Ns mainGlobals mg) (hfa : mg "law" = some (.ref fa))
    {f_sample_texts f_numbered_texts f_free_texts f_renamed f_canonical f_renamingQ f_texts_beside f_record_with_new_texts f_row_with_new_texts f_law_tape f_law_draw f_law_text f_law_texts f_law_shuffled f_law_cells f_law_free f_law_samples f_law_renamed f_law_paired f_law_known f_law_wild f_law_touched f_law_near f_law_matching f_law_both f_law : Addr} {od_sample_texts od_numbered_texts od_free_texts od_renamed od_canonical od_renamingQ od_texts_beside od_record_with_new_texts od_row_with_new_texts od_law_tape od_law_draw od_law_text od_law_texts od_law_shuffled od_law_cells od_law_free od_law_samples od_law_renamed od_law_paired od_law_known od_law_wild od_law_touched od_law_near od_law_matching od_law_both od_law an_sample_texts an_numbered_texts an_free_texts an_renamed an_canonical an_renamingQ an_texts_beside an_record_with_new_texts an_row_with_new_texts an_law_tape an_law_draw an_law_text an_law_texts an_law_shuffled an_law_cells an_law_free an_law_samples an_law_renamed an_law_paired an_law_known an_law_wild an_law_touched an_law_near an_law_matching an_law_both an_law : Option Addr} {sl_sample_texts sl_numbered_texts sl_free_texts sl_renamed sl_canonical sl_renamingQ sl_texts_beside sl_record_with_new_texts sl_row_with_new_texts sl_law_tape sl_law_draw sl_law_text sl_law_texts sl_law_shuffled sl_law_cells sl_law_free sl_law_samples sl_law_renamed sl_law_paired sl_law_known sl_law_wild sl_law_touched sl_law_near sl_law_matching sl_law_both sl_law : Array (Option Value)} {oc_sample_texts dc_sample_texts pm_sample_texts cd_sample_texts ct_sample_texts oc_numbered_texts kV_numbered_texts dc_numbered_texts pm_numbered_texts cd_numbered_texts ct_numbered_texts oc_free_texts kV_free_texts dc_free_texts pm_free_texts cd_free_texts ct_free_texts oc_renamed kV_renamed dc_renamed pm_renamed cd_renamed ct_renamed oc_canonical kV_canonical dc_canonical pm_canonical cd_canonical ct_canonical oc_renamingQ kV_renamingQ dc_renamingQ pm_renamingQ cd_renamingQ ct_renamingQ oc_texts_beside kV_texts_beside dc_texts_beside pm_texts_beside cd_texts_beside ct_texts_beside oc_record_with_new_texts kV_record_with_new_texts dc_record_with_new_texts pm_record_with_new_texts cd_record_with_new_texts ct_record_with_new_texts oc_row_with_new_texts kV_row_with_new_texts dc_row_with_new_texts pm_row_with_new_texts cd_row_with_new_texts ct_row_with_new_texts oc_law_tape kV_law_tape dc_law_tape pm_law_tape cd_law_tape ct_law_tape oc_law_draw kV_law_draw dc_law_draw pm_law_draw cd_law_draw ct_law_draw oc_law_text kV_law_text dc_law_text pm_law_text cd_law_text ct_law_text oc_law_texts kV_law_texts dc_law_texts pm_law_texts cd_law_texts ct_law_texts oc_law_shuffled kV_law_shuffled dc_law_shuffled pm_law_shuffled cd_law_shuffled ct_law_shuffled oc_law_cells kV_law_cells dc_law_cells pm_law_cells cd_law_cells ct_law_cells oc_law_free kV_law_free dc_law_free pm_law_free cd_law_free ct_law_free oc_law_samples kV_law_samples dc_law_samples pm_law_samples cd_law_samples ct_law_samples oc_law_renamed kV_law_renamed dc_law_renamed pm_law_renamed cd_law_renamed ct_law_renamed oc_law_paired kV_law_paired dc_law_paired pm_law_paired cd_law_paired ct_law_paired oc_law_known kV_law_known dc_law_known pm_law_known cd_law_known ct_law_known oc_law_wild kV_law_wild dc_law_wild pm_law_wild cd_law_wild ct_law_wild oc_law_touched kV_law_touched dc_law_touched pm_law_touched cd_law_touched ct_law_touched oc_law_near kV_law_near dc_law_near pm_law_near cd_law_near ct_law_near oc_law_matching kV_law_matching dc_law_matching pm_law_matching cd_law_matching ct_law_matching oc_law_both kV_law_both dc_law_both pm_law_both cd_law_both ct_law_both oc_law kV_law dc_law pm_law cd_law ct_law : Value} {kd_sample_texts ke_sample_texts : Addr} {kn_sample_texts : Nat} {ko_sample_texts : Obj}
    (a_sample_texts : PySem.W.nsIn K mainGlobals "sample_texts" = some (some (.ref f_sample_texts)))
    (l_sample_texts : K.lookup f_sample_texts = some ⟨oc_sample_texts, od_sample_texts, .func (PySem.W.fnOf "sample_texts" "sample_texts" (defArgs s_sample_texts) (defBody s_sample_texts) (defScope s_sample_texts) .none (.ref kd_sample_texts) dc_sample_texts pm_sample_texts an_sample_texts cd_sample_texts ct_sample_texts), sl_sample_texts⟩)
    (c_sample_texts : PySem.W.codeIn K cd_sample_texts "sample_texts" = true) (k_sample_texts : PySem.W.keepIn K (.ref f_sample_texts) = true)
    (n_sample_texts : PySem.W.nsIn K kd_sample_texts "but" = some (some (.ref ke_sample_texts))) (o_sample_texts : K.lookup ke_sample_texts = some ko_sample_texts) (t_sample_texts : ko_sample_texts.cls = .type "tuple") (d_sample_texts : ko_sample_texts.data = .seq #[] kn_sample_texts)
    (a_numbered_texts : PySem.W.nsIn K mainGlobals "numbered_texts" = some (some (.ref f_numbered_texts)))
    (l_numbered_texts : K.lookup f_numbered_texts = some ⟨oc_numbered_texts, od_numbered_texts, .func (PySem.W.fnOf "numbered_texts" "numbered_texts" (defArgs s_numbered_texts) (defBody s_numbered_texts) (defScope s_numbered_texts) .none kV_numbered_texts dc_numbered_texts pm_numbered_texts an_numbered_texts cd_numbered_texts ct_numbered_texts), sl_numbered_texts⟩)
    (c_numbered_texts : PySem.W.codeIn K cd_numbered_texts "numbered_texts" = true) (k_numbered_texts : PySem.W.keepIn K (.ref f_numbered_texts) = true)
    (a_free_texts : PySem.W.nsIn K mainGlobals "free_texts" = some (some (.ref f_free_texts)))
    (l_free_texts : K.lookup f_free_texts = some ⟨oc_free_texts, od_free_texts, .func (PySem.W.fnOf "free_texts" "free_texts" (defArgs s_free_texts) (defBody s_free_texts) (defScope s_free_texts) .none kV_free_texts dc_free_texts pm_free_texts an_free_texts cd_free_texts ct_free_texts), sl_free_texts⟩)
    (c_free_texts : PySem.W.codeIn K cd_free_texts "free_texts" = true) (k_free_texts : PySem.W.keepIn K (.ref f_free_texts) = true)
    (a_renamed : PySem.W.nsIn K mainGlobals "renamed" = some (some (.ref f_renamed)))
    (l_renamed : K.lookup f_renamed = some ⟨oc_renamed, od_renamed, .func (PySem.W.fnOf "renamed" "renamed" (defArgs s_renamed) (defBody s_renamed) (defScope s_renamed) .none kV_renamed dc_renamed pm_renamed an_renamed cd_renamed ct_renamed), sl_renamed⟩)
    (c_renamed : PySem.W.codeIn K cd_renamed "renamed" = true) (k_renamed : PySem.W.keepIn K (.ref f_renamed) = true)
    (a_canonical : PySem.W.nsIn K mainGlobals "canonical" = some (some (.ref f_canonical)))
    (l_canonical : K.lookup f_canonical = some ⟨oc_canonical, od_canonical, .func (PySem.W.fnOf "canonical" "canonical" (defArgs s_canonical) (defBody s_canonical) (defScope s_canonical) .none kV_canonical dc_canonical pm_canonical an_canonical cd_canonical ct_canonical), sl_canonical⟩)
    (c_canonical : PySem.W.codeIn K cd_canonical "canonical" = true) (k_canonical : PySem.W.keepIn K (.ref f_canonical) = true)
    (a_renamingQ : PySem.W.nsIn K mainGlobals "renaming" = some (some (.ref f_renamingQ)))
    (l_renamingQ : K.lookup f_renamingQ = some ⟨oc_renamingQ, od_renamingQ, .func (PySem.W.fnOf "renaming" "renaming" (defArgs s_renamingQ) (defBody s_renamingQ) (defScope s_renamingQ) .none kV_renamingQ dc_renamingQ pm_renamingQ an_renamingQ cd_renamingQ ct_renamingQ), sl_renamingQ⟩)
    (c_renamingQ : PySem.W.codeIn K cd_renamingQ "renaming" = true) (k_renamingQ : PySem.W.keepIn K (.ref f_renamingQ) = true)
    (a_texts_beside : PySem.W.nsIn K mainGlobals "texts_beside" = some (some (.ref f_texts_beside)))
    (l_texts_beside : K.lookup f_texts_beside = some ⟨oc_texts_beside, od_texts_beside, .func (PySem.W.fnOf "texts_beside" "texts_beside" (defArgs s_texts_beside) (defBody s_texts_beside) (defScope s_texts_beside) .none kV_texts_beside dc_texts_beside pm_texts_beside an_texts_beside cd_texts_beside ct_texts_beside), sl_texts_beside⟩)
    (c_texts_beside : PySem.W.codeIn K cd_texts_beside "texts_beside" = true) (k_texts_beside : PySem.W.keepIn K (.ref f_texts_beside) = true)
    (a_record_with_new_texts : PySem.W.nsIn K mainGlobals "record_with_new_texts" = some (some (.ref f_record_with_new_texts)))
    (l_record_with_new_texts : K.lookup f_record_with_new_texts = some ⟨oc_record_with_new_texts, od_record_with_new_texts, .func (PySem.W.fnOf "record_with_new_texts" "record_with_new_texts" (defArgs s_record_with_new_texts) (defBody s_record_with_new_texts) (defScope s_record_with_new_texts) .none kV_record_with_new_texts dc_record_with_new_texts pm_record_with_new_texts an_record_with_new_texts cd_record_with_new_texts ct_record_with_new_texts), sl_record_with_new_texts⟩)
    (c_record_with_new_texts : PySem.W.codeIn K cd_record_with_new_texts "record_with_new_texts" = true) (k_record_with_new_texts : PySem.W.keepIn K (.ref f_record_with_new_texts) = true)
    (a_row_with_new_texts : PySem.W.nsIn K mainGlobals "row_with_new_texts" = some (some (.ref f_row_with_new_texts)))
    (l_row_with_new_texts : K.lookup f_row_with_new_texts = some ⟨oc_row_with_new_texts, od_row_with_new_texts, .func (PySem.W.fnOf "row_with_new_texts" "row_with_new_texts" (defArgs s_row_with_new_texts) (defBody s_row_with_new_texts) (defScope s_row_with_new_texts) .none kV_row_with_new_texts dc_row_with_new_texts pm_row_with_new_texts an_row_with_new_texts cd_row_with_new_texts ct_row_with_new_texts), sl_row_with_new_texts⟩)
    (c_row_with_new_texts : PySem.W.codeIn K cd_row_with_new_texts "row_with_new_texts" = true) (k_row_with_new_texts : PySem.W.keepIn K (.ref f_row_with_new_texts) = true)
    (a_law_tape : PySem.W.nsIn K mainGlobals "_law_tape" = some (some (.ref f_law_tape)))
    (l_law_tape : K.lookup f_law_tape = some ⟨oc_law_tape, od_law_tape, .func (PySem.W.fnOf "_law_tape" "_law_tape" (defArgs s_law_tape) (defBody s_law_tape) (defScope s_law_tape) .none kV_law_tape dc_law_tape pm_law_tape an_law_tape cd_law_tape ct_law_tape), sl_law_tape⟩)
    (c_law_tape : PySem.W.codeIn K cd_law_tape "_law_tape" = true) (k_law_tape : PySem.W.keepIn K (.ref f_law_tape) = true)
    (a_law_draw : PySem.W.nsIn K mainGlobals "_law_draw" = some (some (.ref f_law_draw)))
    (l_law_draw : K.lookup f_law_draw = some ⟨oc_law_draw, od_law_draw, .func (PySem.W.fnOf "_law_draw" "_law_draw" (defArgs s_law_draw) (defBody s_law_draw) (defScope s_law_draw) .none kV_law_draw dc_law_draw pm_law_draw an_law_draw cd_law_draw ct_law_draw), sl_law_draw⟩)
    (c_law_draw : PySem.W.codeIn K cd_law_draw "_law_draw" = true) (k_law_draw : PySem.W.keepIn K (.ref f_law_draw) = true)
    (a_law_text : PySem.W.nsIn K mainGlobals "_law_text" = some (some (.ref f_law_text)))
    (l_law_text : K.lookup f_law_text = some ⟨oc_law_text, od_law_text, .func (PySem.W.fnOf "_law_text" "_law_text" (defArgs s_law_text) (defBody s_law_text) (defScope s_law_text) .none kV_law_text dc_law_text pm_law_text an_law_text cd_law_text ct_law_text), sl_law_text⟩)
    (c_law_text : PySem.W.codeIn K cd_law_text "_law_text" = true) (k_law_text : PySem.W.keepIn K (.ref f_law_text) = true)
    (a_law_texts : PySem.W.nsIn K mainGlobals "_law_texts" = some (some (.ref f_law_texts)))
    (l_law_texts : K.lookup f_law_texts = some ⟨oc_law_texts, od_law_texts, .func (PySem.W.fnOf "_law_texts" "_law_texts" (defArgs s_law_texts) (defBody s_law_texts) (defScope s_law_texts) .none kV_law_texts dc_law_texts pm_law_texts an_law_texts cd_law_texts ct_law_texts), sl_law_texts⟩)
    (c_law_texts : PySem.W.codeIn K cd_law_texts "_law_texts" = true) (k_law_texts : PySem.W.keepIn K (.ref f_law_texts) = true)
    (a_law_shuffled : PySem.W.nsIn K mainGlobals "_law_shuffled" = some (some (.ref f_law_shuffled)))
    (l_law_shuffled : K.lookup f_law_shuffled = some ⟨oc_law_shuffled, od_law_shuffled, .func (PySem.W.fnOf "_law_shuffled" "_law_shuffled" (defArgs s_law_shuffled) (defBody s_law_shuffled) (defScope s_law_shuffled) .none kV_law_shuffled dc_law_shuffled pm_law_shuffled an_law_shuffled cd_law_shuffled ct_law_shuffled), sl_law_shuffled⟩)
    (c_law_shuffled : PySem.W.codeIn K cd_law_shuffled "_law_shuffled" = true) (k_law_shuffled : PySem.W.keepIn K (.ref f_law_shuffled) = true)
    (a_law_cells : PySem.W.nsIn K mainGlobals "_law_cells" = some (some (.ref f_law_cells)))
    (l_law_cells : K.lookup f_law_cells = some ⟨oc_law_cells, od_law_cells, .func (PySem.W.fnOf "_law_cells" "_law_cells" (defArgs s_law_cells) (defBody s_law_cells) (defScope s_law_cells) .none kV_law_cells dc_law_cells pm_law_cells an_law_cells cd_law_cells ct_law_cells), sl_law_cells⟩)
    (c_law_cells : PySem.W.codeIn K cd_law_cells "_law_cells" = true) (k_law_cells : PySem.W.keepIn K (.ref f_law_cells) = true)
    (a_law_free : PySem.W.nsIn K mainGlobals "_law_free" = some (some (.ref f_law_free)))
    (l_law_free : K.lookup f_law_free = some ⟨oc_law_free, od_law_free, .func (PySem.W.fnOf "_law_free" "_law_free" (defArgs s_law_free) (defBody s_law_free) (defScope s_law_free) .none kV_law_free dc_law_free pm_law_free an_law_free cd_law_free ct_law_free), sl_law_free⟩)
    (c_law_free : PySem.W.codeIn K cd_law_free "_law_free" = true) (k_law_free : PySem.W.keepIn K (.ref f_law_free) = true)
    (a_law_samples : PySem.W.nsIn K mainGlobals "_law_samples" = some (some (.ref f_law_samples)))
    (l_law_samples : K.lookup f_law_samples = some ⟨oc_law_samples, od_law_samples, .func (PySem.W.fnOf "_law_samples" "_law_samples" (defArgs s_law_samples) (defBody s_law_samples) (defScope s_law_samples) .none kV_law_samples dc_law_samples pm_law_samples an_law_samples cd_law_samples ct_law_samples), sl_law_samples⟩)
    (c_law_samples : PySem.W.codeIn K cd_law_samples "_law_samples" = true) (k_law_samples : PySem.W.keepIn K (.ref f_law_samples) = true)
    (a_law_renamed : PySem.W.nsIn K mainGlobals "_law_renamed" = some (some (.ref f_law_renamed)))
    (l_law_renamed : K.lookup f_law_renamed = some ⟨oc_law_renamed, od_law_renamed, .func (PySem.W.fnOf "_law_renamed" "_law_renamed" (defArgs s_law_renamed) (defBody s_law_renamed) (defScope s_law_renamed) .none kV_law_renamed dc_law_renamed pm_law_renamed an_law_renamed cd_law_renamed ct_law_renamed), sl_law_renamed⟩)
    (c_law_renamed : PySem.W.codeIn K cd_law_renamed "_law_renamed" = true) (k_law_renamed : PySem.W.keepIn K (.ref f_law_renamed) = true)
    (a_law_paired : PySem.W.nsIn K mainGlobals "_law_paired" = some (some (.ref f_law_paired)))
    (l_law_paired : K.lookup f_law_paired = some ⟨oc_law_paired, od_law_paired, .func (PySem.W.fnOf "_law_paired" "_law_paired" (defArgs s_law_paired) (defBody s_law_paired) (defScope s_law_paired) .none kV_law_paired dc_law_paired pm_law_paired an_law_paired cd_law_paired ct_law_paired), sl_law_paired⟩)
    (c_law_paired : PySem.W.codeIn K cd_law_paired "_law_paired" = true) (k_law_paired : PySem.W.keepIn K (.ref f_law_paired) = true)
    (a_law_known : PySem.W.nsIn K mainGlobals "_law_known" = some (some (.ref f_law_known)))
    (l_law_known : K.lookup f_law_known = some ⟨oc_law_known, od_law_known, .func (PySem.W.fnOf "_law_known" "_law_known" (defArgs s_law_known) (defBody s_law_known) (defScope s_law_known) .none kV_law_known dc_law_known pm_law_known an_law_known cd_law_known ct_law_known), sl_law_known⟩)
    (c_law_known : PySem.W.codeIn K cd_law_known "_law_known" = true) (k_law_known : PySem.W.keepIn K (.ref f_law_known) = true)
    (a_law_wild : PySem.W.nsIn K mainGlobals "_law_wild" = some (some (.ref f_law_wild)))
    (l_law_wild : K.lookup f_law_wild = some ⟨oc_law_wild, od_law_wild, .func (PySem.W.fnOf "_law_wild" "_law_wild" (defArgs s_law_wild) (defBody s_law_wild) (defScope s_law_wild) .none kV_law_wild dc_law_wild pm_law_wild an_law_wild cd_law_wild ct_law_wild), sl_law_wild⟩)
    (c_law_wild : PySem.W.codeIn K cd_law_wild "_law_wild" = true) (k_law_wild : PySem.W.keepIn K (.ref f_law_wild) = true)
    (a_law_touched : PySem.W.nsIn K mainGlobals "_law_touched" = some (some (.ref f_law_touched)))
    (l_law_touched : K.lookup f_law_touched = some ⟨oc_law_touched, od_law_touched, .func (PySem.W.fnOf "_law_touched" "_law_touched" (defArgs s_law_touched) (defBody s_law_touched) (defScope s_law_touched) .none kV_law_touched dc_law_touched pm_law_touched an_law_touched cd_law_touched ct_law_touched), sl_law_touched⟩)
    (c_law_touched : PySem.W.codeIn K cd_law_touched "_law_touched" = true) (k_law_touched : PySem.W.keepIn K (.ref f_law_touched) = true)
    (a_law_near : PySem.W.nsIn K mainGlobals "_law_near" = some (some (.ref f_law_near)))
    (l_law_near : K.lookup f_law_near = some ⟨oc_law_near, od_law_near, .func (PySem.W.fnOf "_law_near" "_law_near" (defArgs s_law_near) (defBody s_law_near) (defScope s_law_near) .none kV_law_near dc_law_near pm_law_near an_law_near cd_law_near ct_law_near), sl_law_near⟩)
    (c_law_near : PySem.W.codeIn K cd_law_near "_law_near" = true) (k_law_near : PySem.W.keepIn K (.ref f_law_near) = true)
    (a_law_matching : PySem.W.nsIn K mainGlobals "_law_matching" = some (some (.ref f_law_matching)))
    (l_law_matching : K.lookup f_law_matching = some ⟨oc_law_matching, od_law_matching, .func (PySem.W.fnOf "_law_matching" "_law_matching" (defArgs s_law_matching) (defBody s_law_matching) (defScope s_law_matching) .none kV_law_matching dc_law_matching pm_law_matching an_law_matching cd_law_matching ct_law_matching), sl_law_matching⟩)
    (c_law_matching : PySem.W.codeIn K cd_law_matching "_law_matching" = true) (k_law_matching : PySem.W.keepIn K (.ref f_law_matching) = true)
    (a_law_both : PySem.W.nsIn K mainGlobals "_law_both" = some (some (.ref f_law_both)))
    (l_law_both : K.lookup f_law_both = some ⟨oc_law_both, od_law_both, .func (PySem.W.fnOf "_law_both" "_law_both" (defArgs s_law_both) (defBody s_law_both) (defScope s_law_both) .none kV_law_both dc_law_both pm_law_both an_law_both cd_law_both ct_law_both), sl_law_both⟩)
    (c_law_both : PySem.W.codeIn K cd_law_both "_law_both" = true) (k_law_both : PySem.W.keepIn K (.ref f_law_both) = true)
    (a_law : PySem.W.nsIn K mainGlobals "law" = some (some (.ref f_law)))
    (l_law : K.lookup f_law = some ⟨oc_law, od_law, .func (PySem.W.fnOf "law" "law" (defArgs s_law) (defBody s_law) (defScope s_law) .none kV_law dc_law pm_law an_law cd_law ct_law), sl_law⟩)
    (c_law : PySem.W.codeIn K cd_law "law" = true) (k_law : PySem.W.keepIn K (.ref f_law) = true)
    (z_abs : PySem.W.nsIn K mainGlobals "abs" = some none)
    (z_dict : PySem.W.nsIn K mainGlobals "dict" = some none)
    (z_int : PySem.W.nsIn K mainGlobals "int" = some none)
    (z_isinstance : PySem.W.nsIn K mainGlobals "isinstance" = some none)
    (z_len : PySem.W.nsIn K mainGlobals "len" = some none)
    (z_list : PySem.W.nsIn K mainGlobals "list" = some none)
    (z_max : PySem.W.nsIn K mainGlobals "max" = some none)
    (z_range : PySem.W.nsIn K mainGlobals "range" = some none)
    (z_set : PySem.W.nsIn K mainGlobals "set" = some none)
    (z_sorted : PySem.W.nsIn K mainGlobals "sorted" = some none)
    (z_str : PySem.W.nsIn K mainGlobals "str" = some none)
    (z_sum : PySem.W.nsIn K mainGlobals "sum" = some none)
    (z_tuple : PySem.W.nsIn K mainGlobals "tuple" = some none)
    (z_zip : PySem.W.nsIn K mainGlobals "zip" = some none) :
    ∃ fd : FuncData, (∀ (s : Shared) (v : Value), BindsTo s fd ⟨[v], []⟩ [("script", v)]) ∧ ∀ base : Heap, K.In base → base.Ns mainGlobals mg → FnOk l.prog w K mg base CX0 7 fa fd ["script"] (spLaw K) := by
  have e := hfa.symm.trans (PySem.W.mg_of X G a_law)
  cases e
  have T : Txt mg := ⟨PySem.W.mg_none_of X G z_abs, PySem.W.mg_none_of X G z_dict, PySem.W.mg_none_of X G z_int, PySem.W.mg_none_of X G z_isinstance, PySem.W.mg_none_of X G z_len, PySem.W.mg_none_of X G z_list, PySem.W.mg_none_of X G z_max, PySem.W.mg_none_of X G z_range, PySem.W.mg_none_of X G z_set, PySem.W.mg_none_of X G z_sorted, PySem.W.mg_none_of X G z_str, PySem.W.mg_none_of X G z_sum, PySem.W.mg_none_of X G z_tuple, PySem.W.mg_none_of X G z_zip⟩
  let D_sample_texts : Dk K mg "sample_texts" s_sample_texts "many" "but" := dk_mk X G a_sample_texts l_sample_texts c_sample_texts k_sample_texts n_sample_texts o_sample_texts t_sample_texts d_sample_texts (fun _ _ _ _ _ _ us ks h1 h2 => match us, ks, h1, h2 with | [_], [_], _, _ => ⟨_, _, _, _, _, _, rfl, rfl, rfl⟩) (fun _ _ _ _ _ _ us ws h1 h2 => match us, ws, h1, h2 with | [_], [_], _, _ => rfl)
  let D_numbered_texts : Df K mg "numbered_texts" s_numbered_texts ["letter", "many", "constants"] := df_mk X G a_numbered_texts l_numbered_texts c_numbered_texts k_numbered_texts fun _ _ _ _ _ _ us hl => match us, hl with | [_, _, _], _ => rfl
  let D_free_texts : Df K mg "free_texts" s_free_texts ["record", "constants"] := df_mk X G a_free_texts l_free_texts c_free_texts k_free_texts fun _ _ _ _ _ _ us hl => match us, hl with | [_, _], _ => rfl
  let D_renamed : Df K mg "renamed" s_renamed ["record", "pairs"] := df_mk X G a_renamed l_renamed c_renamed k_renamed fun _ _ _ _ _ _ us hl => match us, hl with | [_, _], _ => rfl
  let D_canonical : Df K mg "canonical" s_canonical ["record", "constants"] := df_mk X G a_canonical l_canonical c_canonical k_canonical fun _ _ _ _ _ _ us hl => match us, hl with | [_, _], _ => rfl
  let D_renamingQ : Df K mg "renaming" s_renamingQ ["first", "second", "constants"] := df_mk X G a_renamingQ l_renamingQ c_renamingQ k_renamingQ fun _ _ _ _ _ _ us hl => match us, hl with | [_, _, _], _ => rfl
  let D_texts_beside : Df K mg "texts_beside" s_texts_beside ["record", "fixed"] := df_mk X G a_texts_beside l_texts_beside c_texts_beside k_texts_beside fun _ _ _ _ _ _ us hl => match us, hl with | [_, _], _ => rfl
  let D_record_with_new_texts : Df K mg "record_with_new_texts" s_record_with_new_texts ["record", "news"] := df_mk X G a_record_with_new_texts l_record_with_new_texts c_record_with_new_texts k_record_with_new_texts fun _ _ _ _ _ _ us hl => match us, hl with | [_, _], _ => rfl
  let D_row_with_new_texts : Df K mg "row_with_new_texts" s_row_with_new_texts ["row", "news"] := df_mk X G a_row_with_new_texts l_row_with_new_texts c_row_with_new_texts k_row_with_new_texts fun _ _ _ _ _ _ us hl => match us, hl with | [_, _], _ => rfl
  let D_law_tape : Df K mg "_law_tape" s_law_tape ["script"] := df_mk X G a_law_tape l_law_tape c_law_tape k_law_tape fun _ _ _ _ _ _ us hl => match us, hl with | [_], _ => rfl
  let D_law_draw : Df K mg "_law_draw" s_law_draw ["tape", "many"] := df_mk X G a_law_draw l_law_draw c_law_draw k_law_draw fun _ _ _ _ _ _ us hl => match us, hl with | [_, _], _ => rfl
  let D_law_text : Df K mg "_law_text" s_law_text ["tape"] := df_mk X G a_law_text l_law_text c_law_text k_law_text fun _ _ _ _ _ _ us hl => match us, hl with | [_], _ => rfl
  let D_law_texts : Df K mg "_law_texts" s_law_texts ["tape", "many", "taken"] := df_mk X G a_law_texts l_law_texts c_law_texts k_law_texts fun _ _ _ _ _ _ us hl => match us, hl with | [_, _, _], _ => rfl
  let D_law_shuffled : Df K mg "_law_shuffled" s_law_shuffled ["tape", "rows"] := df_mk X G a_law_shuffled l_law_shuffled c_law_shuffled k_law_shuffled fun _ _ _ _ _ _ us hl => match us, hl with | [_, _], _ => rfl
  let D_law_cells : Df K mg "_law_cells" s_law_cells ["record"] := df_mk X G a_law_cells l_law_cells c_law_cells k_law_cells fun _ _ _ _ _ _ us hl => match us, hl with | [_], _ => rfl
  let D_law_free : Df K mg "_law_free" s_law_free ["record", "constants"] := df_mk X G a_law_free l_law_free c_law_free k_law_free fun _ _ _ _ _ _ us hl => match us, hl with | [_, _], _ => rfl
  let D_law_samples : Df K mg "_law_samples" s_law_samples ["constants", "many"] := df_mk X G a_law_samples l_law_samples c_law_samples k_law_samples fun _ _ _ _ _ _ us hl => match us, hl with | [_, _], _ => rfl
  let D_law_renamed : Df K mg "_law_renamed" s_law_renamed ["record", "changes"] := df_mk X G a_law_renamed l_law_renamed c_law_renamed k_law_renamed fun _ _ _ _ _ _ us hl => match us, hl with | [_, _], _ => rfl
  let D_law_paired : Df K mg "_law_paired" s_law_paired ["first", "second"] := df_mk X G a_law_paired l_law_paired c_law_paired k_law_paired fun _ _ _ _ _ _ us hl => match us, hl with | [_, _], _ => rfl
  let D_law_known : Df K mg "_law_known" s_law_known ["tape", "most"] := df_mk X G a_law_known l_law_known c_law_known k_law_known fun _ _ _ _ _ _ us hl => match us, hl with | [_, _], _ => rfl
  let D_law_wild : Df K mg "_law_wild" s_law_wild ["tape", "texts"] := df_mk X G a_law_wild l_law_wild c_law_wild k_law_wild fun _ _ _ _ _ _ us hl => match us, hl with | [_, _], _ => rfl
  let D_law_touched : Df K mg "_law_touched" s_law_touched ["tape", "record", "cells"] := df_mk X G a_law_touched l_law_touched c_law_touched k_law_touched fun _ _ _ _ _ _ us hl => match us, hl with | [_, _, _], _ => rfl
  let D_law_near : Df K mg "_law_near" s_law_near ["tape", "record", "texts", "constants"] := df_mk X G a_law_near l_law_near c_law_near k_law_near fun _ _ _ _ _ _ us hl => match us, hl with | [_, _, _, _], _ => rfl
  let D_law_matching : Df K mg "_law_matching" s_law_matching ["first", "second", "constants"] := df_mk X G a_law_matching l_law_matching c_law_matching k_law_matching fun _ _ _ _ _ _ us hl => match us, hl with | [_, _, _], _ => rfl
  let D_law_both : Df K mg "_law_both" s_law_both ["first", "second", "constants"] := df_mk X G a_law_both l_law_both c_law_both k_law_both fun _ _ _ _ _ _ us hl => match us, hl with | [_, _, _], _ => rfl
  let D_law : Df K mg "law" s_law ["script"] := df_mk X G a_law l_law c_law k_law fun _ _ _ _ _ _ us hl => match us, hl with | [_], _ => rfl
  let D : Ds K mg := ⟨D_sample_texts, D_numbered_texts, D_free_texts, D_renamed, D_canonical, D_renamingQ, D_texts_beside, D_record_with_new_texts, D_row_with_new_texts, D_law_tape, D_law_draw, D_law_text, D_law_texts, D_law_shuffled, D_law_cells, D_law_free, D_law_samples, D_law_renamed, D_law_paired, D_law_known, D_law_wild, D_law_touched, D_law_near, D_law_matching, D_law_both, D_law⟩
  exact ⟨D.law.fd, fun s v => .of_eq rfl, fun base _ _ => ok_law D T⟩
end K06
open PySem PySem.W PyProof.Rows
set_option maxRecDepth 100000 in
set_option maxHeartbeats 0 in
theorem PySem.Challenge.cw_migraproof_k06_whole_similar_records_holds : PySem.Challenge.rw_migraproof_k06_whole_similar_records.Holds := by
  w_on; o_law; k_head; (case hw => w_witness2)
  k_fill
  refine L2.walk_of (l := PySem.Challenge.rw_migraproof_k06_whole_similar_records) (n := 63) (k := 7) (x := "script") (CX := fun _ => L2.CX0) (sp := fun w => K06.spLaw _) rfl (by decide) rfl ⟨rfl, by decide, by decide⟩ (fun w h Y => PySem.W.kIn_of Y) ?F (fun _ _ a ns hl _ hS => ⟨a, ns, rfl, hS, hl, fun _ => rfl⟩) (fun _ _ _ _ _ h => h)
  case F =>
    intro w mg fa h KX G hmg
    refine' K06.all_mk KX G hmg ?a_sample_texts ?l_sample_texts ?c_sample_texts ?k_sample_texts ?n_sample_texts ?o_sample_texts ?t_sample_texts ?d_sample_texts ?a_numbered_texts ?l_numbered_texts ?c_numbered_texts ?k_numbered_texts ?a_free_texts ?l_free_texts ?c_free_texts ?k_free_texts ?a_renamed ?l_renamed ?c_renamed ?k_renamed ?a_canonical ?l_canonical ?c_canonical ?k_canonical ?a_renamingQ ?l_renamingQ ?c_renamingQ ?k_renamingQ ?a_texts_beside ?l_texts_beside ?c_texts_beside ?k_texts_beside ?a_record_with_new_texts ?l_record_with_new_texts ?c_record_with_new_texts ?k_record_with_new_texts ?a_row_with_new_texts ?l_row_with_new_texts ?c_row_with_new_texts ?k_row_with_new_texts ?a_law_tape ?l_law_tape ?c_law_tape ?k_law_tape ?a_law_draw ?l_law_draw ?c_law_draw ?k_law_draw ?a_law_text ?l_law_text ?c_law_text ?k_law_text ?a_law_texts ?l_law_texts ?c_law_texts ?k_law_texts ?a_law_shuffled ?l_law_shuffled ?c_law_shuffled ?k_law_shuffled ?a_law_cells ?l_law_cells ?c_law_cells ?k_law_cells ?a_law_free ?l_law_free ?c_law_free ?k_law_free ?a_law_samples ?l_law_samples ?c_law_samples ?k_law_samples ?a_law_renamed ?l_law_renamed ?c_law_renamed ?k_law_renamed ?a_law_paired ?l_law_paired ?c_law_paired ?k_law_paired ?a_law_known ?l_law_known ?c_law_known ?k_law_known ?a_law_wild ?l_law_wild ?c_law_wild ?k_law_wild ?a_law_touched ?l_law_touched ?c_law_touched ?k_law_touched ?a_law_near ?l_law_near ?c_law_near ?k_law_near ?a_law_matching ?l_law_matching ?c_law_matching ?k_law_matching ?a_law_both ?l_law_both ?c_law_both ?k_law_both ?a_law ?l_law ?c_law ?k_law ?z_abs ?z_dict ?z_int ?z_isinstance ?z_len ?z_list ?z_max ?z_range ?z_set ?z_sorted ?z_str ?z_sum ?z_tuple ?z_zip
    (case a_sample_texts => k_is)
    (case l_sample_texts => k_is)
    (case c_sample_texts => k_is)
    (case k_sample_texts => k_is)
    (case n_sample_texts => k_is)
    (case o_sample_texts => k_is)
    (case t_sample_texts => rfl)
    (case d_sample_texts => rfl)
    (case a_numbered_texts => k_is)
    (case l_numbered_texts => k_is)
    (case c_numbered_texts => k_is)
    (case k_numbered_texts => k_is)
    (case a_free_texts => k_is)
    (case l_free_texts => k_is)
    (case c_free_texts => k_is)
    (case k_free_texts => k_is)
    (case a_renamed => k_is)
    (case l_renamed => k_is)
    (case c_renamed => k_is)
    (case k_renamed => k_is)
    (case a_canonical => k_is)
    (case l_canonical => k_is)
    (case c_canonical => k_is)
    (case k_canonical => k_is)
    (case a_renamingQ => k_is)
    (case l_renamingQ => k_is)
    (case c_renamingQ => k_is)
    (case k_renamingQ => k_is)
    (case a_texts_beside => k_is)
    (case l_texts_beside => k_is)
    (case c_texts_beside => k_is)
    (case k_texts_beside => k_is)
    (case a_record_with_new_texts => k_is)
    (case l_record_with_new_texts => k_is)
    (case c_record_with_new_texts => k_is)
    (case k_record_with_new_texts => k_is)
    (case a_row_with_new_texts => k_is)
    (case l_row_with_new_texts => k_is)
    (case c_row_with_new_texts => k_is)
    (case k_row_with_new_texts => k_is)
    (case a_law_tape => k_is)
    (case l_law_tape => k_is)
    (case c_law_tape => k_is)
    (case k_law_tape => k_is)
    (case a_law_draw => k_is)
    (case l_law_draw => k_is)
    (case c_law_draw => k_is)
    (case k_law_draw => k_is)
    (case a_law_text => k_is)
    (case l_law_text => k_is)
    (case c_law_text => k_is)
    (case k_law_text => k_is)
    (case a_law_texts => k_is)
    (case l_law_texts => k_is)
    (case c_law_texts => k_is)
    (case k_law_texts => k_is)
    (case a_law_shuffled => k_is)
    (case l_law_shuffled => k_is)
    (case c_law_shuffled => k_is)
    (case k_law_shuffled => k_is)
    (case a_law_cells => k_is)
    (case l_law_cells => k_is)
    (case c_law_cells => k_is)
    (case k_law_cells => k_is)
    (case a_law_free => k_is)
    (case l_law_free => k_is)
    (case c_law_free => k_is)
    (case k_law_free => k_is)
    (case a_law_samples => k_is)
    (case l_law_samples => k_is)
    (case c_law_samples => k_is)
    (case k_law_samples => k_is)
    (case a_law_renamed => k_is)
    (case l_law_renamed => k_is)
    (case c_law_renamed => k_is)
    (case k_law_renamed => k_is)
    (case a_law_paired => k_is)
    (case l_law_paired => k_is)
    (case c_law_paired => k_is)
    (case k_law_paired => k_is)
    (case a_law_known => k_is)
    (case l_law_known => k_is)
    (case c_law_known => k_is)
    (case k_law_known => k_is)
    (case a_law_wild => k_is)
    (case l_law_wild => k_is)
    (case c_law_wild => k_is)
    (case k_law_wild => k_is)
    (case a_law_touched => k_is)
    (case l_law_touched => k_is)
    (case c_law_touched => k_is)
    (case k_law_touched => k_is)
    (case a_law_near => k_is)
    (case l_law_near => k_is)
    (case c_law_near => k_is)
    (case k_law_near => k_is)
    (case a_law_matching => k_is)
    (case l_law_matching => k_is)
    (case c_law_matching => k_is)
    (case k_law_matching => k_is)
    (case a_law_both => k_is)
    (case l_law_both => k_is)
    (case c_law_both => k_is)
    (case k_law_both => k_is)
    (case a_law => k_is)
    (case l_law => k_is)
    (case c_law => k_is)
    (case k_law => k_is)
    (case z_abs => k_is)
    (case z_dict => k_is)
    (case z_int => k_is)
    (case z_isinstance => k_is)
    (case z_len => k_is)
    (case z_list => k_is)
    (case z_max => k_is)
    (case z_range => k_is)
    (case z_set => k_is)
    (case z_sorted => k_is)
    (case z_str => k_is)
    (case z_sum => k_is)
    (case z_tuple => k_is)
    (case z_zip => k_is)
