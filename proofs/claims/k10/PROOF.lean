import PyProof.Rows.All
import Wide.All
import OpenK.AllK
import Wide.FinOn
import PySem.Challenge.RW_migraproof_k10_cell_of_an_expression
import HandS.ForMost
import HandS.Set
import HandS.SetFor
import HandS.SetKeys
import HandS.Strs
import HandS.FStr
import PyProof.Rows.SortShellAny
import HandS.IsInst
import HandS.Defaults
import HandS.Zip
import HandS.Wide
import HandS.Conv
import HandS.Flow
import HandS.Small
import KE.KDictPairs
import HandS.NoneIn
import HandS.Words
import PyProof.P3Eq
import HandS.DictComp
import HandS.More
import KE.KDictZip
import HandS.Rev
import PyProof.EnumFor
import HandS.TupAny
import HandS.AnyAll
import HandS.GenList
import KE.KNestM
import KE.KMathGC
import HandS.Gcd
import HandS.WideBits
import HandS.EndBits
import HandS.Star
import HandS.EndTab
import HandS.HeadWalk
import HandS.HeadHook4
set_option Elab.async false
set_option linter.all false
set_option maxRecDepth 100000
set_option maxHeartbeats 8000000
namespace Tq
open PySem PySem.Spec PyProof.Rows L2

/-! ### sets of texts, with the order of their table -/
def kS (e : Int × Value) : Str := match e.2 with
  | .str x _ => x
  | _ => Str.empty
def EntS (w : World) (e : Int × Value) : Prop := ∃ x u, e = (hashStr w x, Value.str x u)
structure TabS (w : World) (ob : Obj) (ks : List Str) (es : Array (Int × Value)) (ep : Nat) (tb : SetTable) : Prop where
  ex : ob.ExactSet
  da : ob.data = .set es ep tb
  en : ∀ e ∈ es.toList, EntS w e
  pm : (es.toList.map kS).Perm ks
  nd : ks.Nodup
  bd : es.size < scanBound
  ft : tb.fits es.size = true
  rs : Ris tb.place.toList
  ld : w.params.followText "set-order" = true ∨ tb.led = true
/-- the set of texts at a holds ks, each once -/
def TSet (w : World) (h : Heap) (a : Addr) (ks : List Str) : Prop := ∃ ob es ep tb, h.get? a = some ob ∧ TabS w ob ks es ep tb

section
variable {P : Program} {w : World} {A : Around} {E : Value → Shared → Prop} {s : Shared} {h h' : Heap} {a : Addr} {ks : List Str}
theorem TSet.keep (T : TSet w h a ks) (k : ∀ o, h.get? a = some o → h'.get? a = some o) : TSet w h' a ks :=
  let ⟨ob, es, ep, tb, g, t⟩ := T
  ⟨ob, es, ep, tb, k ob g, t⟩
theorem TSet.perm {ls : List Str} (T : TSet w h a ks) (p : ks.Perm ls) : TSet w h a ls :=
  let ⟨ob, es, ep, tb, g, t⟩ := T
  ⟨ob, es, ep, tb, g, ⟨t.ex, t.da, t.en, t.pm.trans p, p.nodup_iff.mp t.nd, t.bd, t.ft, t.rs, t.ld⟩⟩
theorem ent_is {e : Int × Value} (g : EntS w e) (k : Str) : (strKind P w).is k e.2 = true ↔ kS e = k := by
  obtain ⟨x, u, rfl⟩ := g
  show ((x == k) = true) ↔ x = k
  exact beq_iff_eq
theorem ents_of {l : List (Int × Value)} (g : ∀ e ∈ l, EntS w e) : ElemsOf (strKind P w) l := by
  intro e he
  obtain ⟨x, u, rfl⟩ := g e he
  exact ⟨⟨x, strKind_is P w x u, rfl⟩, rfl⟩
theorem mem_ents {l : List (Int × Value)} (g : ∀ e ∈ l, EntS w e) (k : Str) : k ∈ l.map kS ↔ ∃ e ∈ l, (strKind P w).is k e.2 = true := by
  constructor
  · intro m
    obtain ⟨e, he, q⟩ := List.mem_map.mp m
    exact ⟨e, he, (ent_is (g e he) k).mpr q⟩
  · rintro ⟨e, he, q⟩
    exact List.mem_map.mpr ⟨e, he, (ent_is (g e he) k).mp q⟩
theorem TabS.len {ob : Obj} {es : Array (Int × Value)} {ep : Nat} {tb : SetTable} (t : TabS w ob ks es ep tb) : es.size = ks.length := by
  have e := t.pm.length_eq
  simpa using e
theorem TSet.setOf (T : TSet w h a ks) : h.SetOf (strKind P w) a (fun k => decide (k ∈ ks)) ks.length := by
  obtain ⟨ob, es, ep, tb, g, t⟩ := T
  refine ⟨ob, es, ep, tb, g, t.ex, t.da, ents_of t.en, ?_, t.bd, t.ft, t.len⟩
  intro k
  rw [decide_eq_true_eq, ← t.pm.mem_iff]
  exact mem_ents t.en k

theorem put_get {ob : Obj} {es es' : Array (Int × Value)} {ep : Nat} {tb tb' : SetTable} (g : h.get? a = some ob) (d : ob.data = .set es ep tb) :
    (h.update a (Obj.putSet es' tb')).get? a = some { ob with data := .set es' (ep + 1) tb' } := by
  have z := Heap.get?_update_self (Obj.putSet es' tb') g (by rw [putSet_of es' tb' d]; rfl)
  rwa [putSet_of es' tb' d] at z

/-- the end of an addition: laid, and perhaps laid anew -/
theorem tail_laid {G : Bool → Sem Unit} (hG : ∀ (b : Bool) (s₁ : Shared) (Q' : Unit → Shared → Prop), Q' () s₁ → wpAny (model P w) A (G b) Q' E s₁)
    {ob : Obj} {es0 : Array (Int × Value)} {ep : Nat} {tb0 : SetTable} (g : s.heap.get? a = some ob) (x : ob.ExactSet) (d : ob.data = .set es0 ep tb0)
    {es : Array (Int × Value)} {tb : SetTable} (en : ∀ e ∈ es.toList, EntS w e) (pm : (es.toList.map kS).Perm ks) (nd : ks.Nodup) (bd : es.size < scanBound)
    (ft : tb.fits es.size = true) (rs : Ris tb.place.toList) (ld : w.params.followText "set-order" = true ∨ tb.led = true) {wd : Bool} {R : Option Bool → Shared → Prop}
    (hR : ∀ h', Heap.SameBut a s.heap h' → TSet w h' a ks → R (some true) { s with heap := h' }) :
    wpAny (model P w) A (do
      storeSet a es tb
      if (!wd && tb.tooFull) = true then do
        G (relayAll tb es (SetTable.grown es.size)).2.2
        storeSet a (relayAll tb es (SetTable.grown es.size)).1 (relayAll tb es (SetTable.grown es.size)).2.1
        pure (some true)
      else pure (some true)) R E s := by
  refine wpAny_bind (wpAny_storeSet_of g d ?_ (fits_of_scanBound bd))
  have g1 := put_get (es' := es) (tb' := tb) g d
  have b1 := Heap.SameBut.update s.heap a (Obj.putSet es tb)
  by_cases full : (!wd && tb.tooFull) = true
  · rw [if_pos full]
    have f1 := relayAll_perm tb es (SetTable.grown es.size)
    have f2 := relayAll_fits tb es (SetTable.grown es.size)
    have f3 := relayAll_ris tb es (SetTable.grown es.size)
    have f4 := relayAll_led tb es (SetTable.grown es.size)
    generalize relayAll tb es (SetTable.grown es.size) = Z at f1 f2 f3 f4 ⊢
    rcases Z with ⟨es2, tb2, gv⟩
    have z2 : es2.size = es.size := by simpa using f1.length_eq
    have bd2 : es2.size < scanBound := by omega
    refine wpAny_bind (hG _ _ _ (wpAny_bind (wpAny_storeSet_of g1 rfl ?_ (fits_of_scanBound bd2))))
    have g2 := put_get (es' := es2) (tb' := tb2) g1 rfl
    refine wpAny_pure (hR _ (b1.trans (Heap.SameBut.update _ a _)) ⟨_, es2, _, tb2, g2, x, rfl, ?_, (f1.map kS).trans pm, nd, bd2, f2, f3, ?_⟩)
    · intro e he
      exact en e (f1.mem_iff.mp he)
    · rcases ld with l | l
      · exact Or.inl l
      · exact Or.inr (f4.trans l)
  · rw [if_neg full]
    exact wpAny_pure (hR _ b1 ⟨_, es, _, tb, g1, x, rfl, en, pm, nd, bd, ft, rs, ld⟩)

theorem gave_way {b : Bool} {s₁ : Shared} {Q' : Unit → Shared → Prop} (q : Q' () s₁) : wpAny (model P w) A (match b with | true => rule "set.scan.the-table-gave-way" | false => pure ()) Q' E s₁ := by
  cases b
  · exact wpAny_pure q
  · exact wpAny_rule q

/-- a text is added by its hash -/
theorem add_hashed {x : Str} {u : Tok} {Q : Bool → Shared → Prop} (T : TSet w s.heap a ks) (room : ks.length + 1 < scanBound)
    (hQ : ∀ h', Heap.SameBut a s.heap h' → TSet w h' a (if x ∈ ks then ks else ks ++ [x]) → Q (!decide (x ∈ ks)) { s with heap := h' }) :
    wpAny (model P w) A (setAddHashed a (.str x u) ((strKind P w).hash x)) Q E s := by
  obtain ⟨ob, es, ep, tb, g, t⟩ := T
  have ln := t.len
  have hk : (strKind P w).is x (.str x u) = true := strKind_is P w x u
  have sc : (Value.str x u).scannable = true := rfl
  have el : ElemsOf (strKind P w) es.toList := ents_of t.en
  unfold setAddHashed setAddHashedIn
  refine wpAny_holding (wpAny_bind (wpAny_setState_of g t.da t.ft ?_))
  dsimp only
  rw [byScan_of sc t.bd el, if_pos rfl]
  unfold setAddByScan
  refine wpAny_bind (wpAny_bind (wpAny_rule (wpAny_bind (wpAny_setScan_of hk g t.da t.ft el ?_))))
  cases fi : List.findIdx? (fun e => (strKind P w).is x e.2) es.toList with
  | some j =>
    obtain ⟨jl, jp, _⟩ := List.findIdx?_eq_some_iff_getElem.mp fi
    have mx : x ∈ ks := t.pm.mem_iff.mp ((mem_ents (P := P) t.en x).mpr ⟨_, List.getElem_mem jl, jp⟩)
    have q := hQ s.heap (Heap.SameBut.refl a s.heap) ⟨ob, es, ep, tb, g, by rw [if_pos mx]; exact t⟩
    rw [decide_eq_true mx] at q
    exact wpAny_pure (wpAny_pure q)
  | none =>
    have nm : x ∉ es.toList.map kS := by
      intro m
      obtain ⟨e, he, q⟩ := (mem_ents (P := P) t.en x).mp m
      have c := List.findIdx?_eq_none_iff.mp fi e he
      simp [q] at c
    have nx : x ∉ ks := fun m => nm (t.pm.mem_iff.mpr m)
    have l1 := layNew_perm tb es ((strKind P w).hash x) (.str x u)
    have l2 := layNew_fits tb es ((strKind P w).hash x) (.str x u)
    have l3 := layNew_ris tb es ((strKind P w).hash x) (.str x u) t.rs
    have l4 := layNew_led tb es ((strKind P w).hash x) (.str x u)
    dsimp only
    generalize layNew tb es ((strKind P w).hash x) (.str x u) = Z at l1 l2 l3 l4 ⊢
    rcases Z with ⟨es1, tb1, wd, gv⟩
    dsimp only at l1 l2 l3 l4 ⊢
    rw [Array.toList_push] at l1
    have en1 : ∀ e ∈ es1.toList, EntS w e := by
      intro e he
      rcases List.mem_append.mp (l1.mem_iff.mp he) with m | m
      · exact t.en e m
      · rw [List.mem_singleton.mp m]
        exact ⟨x, u, rfl⟩
    have pm1 : (es1.toList.map kS).Perm (ks ++ [x]) := by
      refine (l1.map kS).trans ?_
      rw [List.map_append]
      exact t.pm.append_right [x]
    have nd1 : (ks ++ [x]).Nodup := by
      rw [List.nodup_append]
      exact ⟨t.nd, by simp, fun y hy z hz e => nx (by rw [List.mem_singleton.mp hz] at e; exact e ▸ hy)⟩
    have z1 : es1.size = ks.length + 1 := by
      have := pm1.length_eq
      simpa using this
    have bd1 : es1.size < scanBound := by omega
    have ld1 : w.params.followText "set-order" = true ∨ tb1.led = true := by
      rcases t.ld with l | l
      · exact Or.inl l
      · exact Or.inr (l4.trans l)
    have done : ∀ h', Heap.SameBut a s.heap h' → TSet w h' a (ks ++ [x]) → Q true { s with heap := h' } := by
      intro h' b T'
      have q := hQ h' b (by rw [if_neg nx]; exact T')
      rwa [decide_eq_false nx] at q
    refine wpAny_bind (gave_way ?_)
    split
    · refine wpAny_bind ?_
      rw [hashByValue_scannable 8 sc]
      refine wpAny_pure (tail_laid (fun b s₁ Q' q => gave_way q) g t.ex t.da en1 pm1 nd1 bd1 ?_ ?_ ?_ fun h' b T' => ?_)
      · first | (split <;> first | exact l2 | exact SetTable.fits_plain_off l2) | exact l2
      · first | (split <;> exact l3) | exact l3
      · first | (split <;> exact ld1) | exact ld1
      · dsimp only
        exact wpAny_pure (done h' b T')
    · refine wpAny_bind (wpAny_pure ?_)
      simp only [↓reduceIte]
      refine tail_laid (fun b s₁ Q' q => gave_way q) g t.ex t.da en1 pm1 nd1 bd1 l2 l3 ld1 fun h' b T' => ?_
      dsimp only
      exact wpAny_pure (done h' b T')
end

/-! ### set(t), set(l) of texts -/
def step1 (ks : List Str) (x : Str) : List Str := if x ∈ ks then ks else ks ++ [x]
/-- the texts, each once, by their first places -/
def once (xs : List Str) : List Str := xs.foldl step1 []
theorem once_snoc (xs : List Str) (x : Str) : once (xs ++ [x]) = step1 (once xs) x := by
  unfold once
  rw [List.foldl_append]
  rfl
theorem step1_mem (ks : List Str) (x y : Str) : y ∈ step1 ks x ↔ y ∈ ks ∨ y = x := by
  unfold step1
  split
  · rename_i h
    constructor
    · exact Or.inl
    · rintro (h2 | h2)
      · exact h2
      · exact h2 ▸ h
  · simp
theorem step1_nd {ks : List Str} (x : Str) (h : ks.Nodup) : (step1 ks x).Nodup := by
  unfold step1
  split
  · exact h
  · rename_i nx
    rw [List.nodup_append]
    exact ⟨h, by simp, fun y hy z hz e => nx (by rw [List.mem_singleton.mp hz] at e; exact e ▸ hy)⟩
theorem step1_len (ks : List Str) (x : Str) : (step1 ks x).length ≤ ks.length + 1 := by
  unfold step1
  split <;> simp
theorem fold_mem (xs : List Str) : ∀ (ks : List Str) (y : Str), y ∈ xs.foldl step1 ks ↔ y ∈ ks ∨ y ∈ xs := by
  induction xs with
  | nil => intro ks y; simp
  | cons x r ih =>
    intro ks y
    rw [List.foldl_cons, ih, step1_mem, List.mem_cons, or_assoc]
theorem once_mem (xs : List Str) (y : Str) : y ∈ once xs ↔ y ∈ xs := by
  unfold once
  rw [fold_mem]
  simp
theorem fold_nd (xs : List Str) : ∀ ks : List Str, ks.Nodup → (xs.foldl step1 ks).Nodup := by
  induction xs with
  | nil => intro ks h; exact h
  | cons x r ih => intro ks h; exact ih _ (step1_nd x h)
theorem once_nd (xs : List Str) : (once xs).Nodup := fold_nd xs [] List.nodup_nil
theorem fold_len (xs : List Str) : ∀ ks : List Str, (xs.foldl step1 ks).length ≤ ks.length + xs.length := by
  induction xs with
  | nil => intro ks; simp
  | cons x r ih =>
    intro ks
    have a := ih (step1 ks x)
    have b := step1_len ks x
    rw [List.foldl_cons, List.length_cons]
    omega
theorem once_len (xs : List Str) : (once xs).length ≤ xs.length := by
  have := fold_len xs []
  simpa [once] using this
theorem once_take {xs : List Str} {i : Nat} {x : Str} (h : xs[i]? = some x) : once (xs.take (i + 1)) = step1 (once (xs.take i)) x := by
  rw [List.take_add_one, h]
  exact once_snoc _ _

section
variable {P : Program} {w : World} {A : Around} {E : Value → Shared → Prop} {s : Shared}
theorem fill_loop {I : Addr} {fp wr : List Addr} {G : Array GenState → Array GenState → Prop} {n : Nat} {Pv : Nat → Value → Prop} {St : Nat → Shared → Prop} {R : Result → Shared → Prop}
    (W : WalksS P w A.in1 I fp wr G n Pv St) (S : Addr) (hS : S ∉ fp) (xs : List Str) (hn : n = xs.length) (hb : xs.length + 1 < scanBound) (hv : ∀ i v, Pv i v → ∃ x u, xs[i]? = some x ∧ v = .str x u)
    (fin : ∀ s', Moved (S :: wr) G s s' → TSet w s'.heap S (once xs) → R (.ok (.ret .none)) s') :
    ∀ (k i : Nat) (t : Shared), n - i = k → i ≤ n → St i t → TSet w t.heap S (once (xs.take i)) → Moved (S :: wr) G s t →
      codeAny (model P w) A (.builtin "set.update.loop" ⟨[.ref S, .ref I], []⟩) R t := by
  have hw : S ∉ wr := fun m => hS (W.sub _ m)
  have up : ∀ b ∈ wr, b ∈ S :: wr := fun b m => List.mem_cons_of_mem _ m
  intro k
  induction k with
  | zero =>
    intro i t e1 e2 st T mv
    have ei : i = xs.length := by omega
    refine codeAny_builtin F.entry_set_update_loop ?_
    rw [Around.under_plainId F.plain_set_update_loop _]
    show wpAny _ A.in1 (pyNext (.ref I) >>= _) _ _ t
    refine wpAny_bind (W.done t _ _ (by rw [← hn] at ei; rw [← ei]; exact st) fun t' m => ?_)
    show wpAny _ A.in1 (ret Value.none) _ _ t'
    have T' : TSet w t'.heap S (once (xs.take i)) := T.keep fun o g => m.heap S o hw g
    rw [ei, List.take_length] at T'
    exact wpAny_pure (fin t' (mv.trans W.gtrans (m.mono up)) T')
  | succ k ih =>
    intro i t e1 e2 st T mv
    have lt : i < n := by omega
    refine codeAny_builtin F.entry_set_update_loop ?_
    rw [Around.under_plainId F.plain_set_update_loop _]
    show wpAny _ A.in1 (pyNext (.ref I) >>= _) _ _ t
    refine wpAny_bind (W.item i t _ _ lt st fun v t' pv st' m => ?_)
    obtain ⟨x, u, hx, rfl⟩ := hv i v pv
    have T' : TSet w t'.heap S (once (xs.take i)) := T.keep fun o g => m.heap S o hw g
    have ln : (once (xs.take i)).length ≤ xs.length := Nat.le_trans (once_len _) (by rw [List.length_take]; exact Nat.min_le_right _ _)
    show wpAny _ A.in1 (holding [Value.str x u] (setAdd S (.str x u)) >>= _) _ _ t'
    refine wpAny_bind (wpAny_holding ?_)
    unfold setAdd
    refine wpAny_holding (wpAny_bind ((strKind P w).pyHash (k := x) (strKind_is _ _ _ _) ?_))
    refine add_hashed (s := { t' with toks := t'.toks + 1 }) T' (by omega) fun h' sb T2 => ?_
    have T3 : TSet w h' S (once (xs.take (i + 1))) := by
      rw [once_take hx]
      exact T2
    refine wpAny_pure ⟨plainId_quiet F.plain_set_update_loop _, ih (i + 1) _ (by omega) lt (W.frame _ t' _ _ st' (Nat.le_succ _) fun b m' o g => ?_) T3 ?_⟩
    · rw [sb.2 b fun z : b = S => hS (z ▸ m')]
      exact g
    · refine mv.trans W.gtrans ((m.mono up).then_heap (Nat.le_succ _) fun b o nb g => ?_)
      rw [sb.2 b fun z : b = S => nb (z ▸ List.mem_cons_self)]
      exact g
end

section
variable {P : Program} {w : World} {A : Around} {E : Value → Shared → Prop} {s : Shared}
/-- the object of a new set -/
abbrev noSet (w : World) : Obj := { cls := .type "set", dict := none, data := .set #[] 0 (.fresh 0 0 (!w.params.followText "set-order")) }
theorem noSet_ok {h : Heap} {a : Addr} (g : h.get? a = some (noSet w)) : TSet w h a [] := by
  refine ⟨noSet w, #[], 0, _, g, ⟨⟨rfl, rfl, rfl⟩, rfl, ?_, .nil, List.nodup_nil, by decide, rfl, List.Pairwise.nil, ?_⟩⟩
  · intro e m
    simp at m
  · show _ ∨ (!w.params.followText "set-order") = true
    cases w.params.followText "set-order" <;> simp
theorem strs_get : ∀ {us : List Value} {xs : List Str}, StrsAre us xs → ∀ (i : Nat) (v : Value), us[i]? = some v → ∃ x u, xs[i]? = some x ∧ v = .str x u
  | _, _, .nil, _, _, h => by simp at h
  | _, _, .cons x u _, 0, v, h => by
    simp at h
    exact ⟨x, u, rfl, h.symm⟩
  | _, _, .cons _ _ r, i + 1, v, h => strs_get r i v (by simpa using h)
/-- what set(..) leaves -/
def SetMade (w : World) (s : Shared) (xs : List Str) (z : Shared) : Prop := ∃ h' tk, z = { s with heap := h', toks := tk } ∧ TSet w h' s.heap.objs.size (once xs) ∧ ∀ b o, s.heap.get? b = some o → h'.get? b = some o


end
end Tq
namespace Tq
open PySem PySem.Spec PyProof.Rows L2
section
variable {P : Program} {w : World} {A : Around} {E : Value → Shared → Prop} {s : Shared}
set_option maxHeartbeats 8000000 in
theorem set_tup {l : Addr} {vs : Array Value} {xs : List Str} {Q : Value → Shared → Prop} (calm : A.handled = none) (hl : s.heap.IsTuple l vs) (sa : StrsAre vs.toList xs) (few : xs.length + 1 < scanBound)
    (k : ∀ z, SetMade w s xs z → Q (.ref s.heap.objs.size) z) : wpAny (model P w) A (call (.type "set") [.ref l]) Q E s := by
  have size : vs.size = xs.length := by rw [← StrsAre.len_eq sa, Array.length_toList]
  obtain ⟨c0, t0, mro⟩ := F.called_set.mro
  have f1 := F.called_set.made; have f2 := F.called_set.sub
  refine wpAny_call (codeAny_of_tree ?_)
  show wpAny _ _ (callAny (.type "set") _) _ _ _
  refine wpAny_pure ⟨Code.quiet_builtin _ (by decide +kernel), codeAny_builtin F.entry_type_call ?_⟩
  rw [Around.under_plain (weight_type_call_type "set" [.ref l] []) rfl]
  have f3 := F.called_set.notType; have f4 := F.called_set.canCreate; have f5 := F.typeCall_set_1 (.ref l)
  repeat (any_goals (first | assumption | wp_step))
  refine codeAny_mono (code_set_led1 (.ref l) (E := E) (Q₁ := fun o z => o = .ref s.heap.objs.size ∧ z = { s with heap := s.heap.push (noSet w) }) ⟨rfl, rfl⟩) fun r z hr => ?_
  match r, hr with
  | .error e, hr => exact hr
  | .ok (.ret o), hr =>
    obtain ⟨rfl, rfl⟩ := hr
    have g0 : (s.heap.push (noSet w)).get? s.heap.objs.size = some (noSet w) := Heap.get?_push_size _ rfl
    have ty : Shared.TypeIs { s with heap := s.heap.push (noSet w) } (.ref s.heap.objs.size) "set" := ⟨_, g0, rfl⟩
    have f6 := F.called_set.init.lookup; have f7 := F.called_set.init.bind (.ref s.heap.objs.size)
    repeat (any_goals (first | assumption | wp_step))
    refine codeAny_mono (codeAny_call_builtin (R := wants (fun r z => r = .none ∧ SetMade w s xs z) E) F.called_set.init.plain F.entry_set_init (check_set_init_1 ty ?_)) fun r z hr => ?_
    · obtain ⟨ob, gl, cl, n, dl⟩ := hl
      obtain ⟨_, dd, _, sl⟩ := ob
      simp only at cl dl
      subst cl; subst dl
      have gl' : (s.heap.push (noSet w)).get? l = some { cls := .type "tuple", dict := dd, data := .seq vs n, slots := sl } := Heap.get?_push_of_some _ gl
      have p1 := F.sub_tuple_set; have p2 := F.sub_tuple_frozenset
      have p3 : (Value.type "tuple" == Value.type "dict") = false := by decide
      have hl' : (s.heap.push (noSet w)).IsTuple l vs := ⟨_, gl', rfl, n, rfl⟩
      unfold Builtin.«set.__init__» noKeywords Builtin.Frozenset.updateFrom
      generalize hPI : pyIter = PI
      wp_walk
      subst hPI
      refine wpAny_pyIter_tuple hl' (wpAny_bind (wpAny_runValue ?_))
      have ll : l < s.heap.objs.size := Heap.lt_size gl
      have zz : (s.heap.push (noSet w)).objs.size = s.heap.objs.size + 1 := Heap.size_push ..
      have ne : l ≠ (s.heap.push (noSet w)).objs.size := by
        rw [zz]; exact Nat.ne_of_lt (Nat.lt_succ_of_lt ll)
      have nf : s.heap.objs.size ∉ [(s.heap.push (noSet w)).objs.size, l] := by
        rw [zz]
        simp only [List.mem_cons, List.not_mem_nil, or_false, not_or]
        exact ⟨Nat.ne_of_lt (Nat.lt_succ_self _), Nat.ne_of_gt ll⟩
      have val : ∀ (i : Nat) (v : Value), vs[i]? = some v → ∃ x u, xs[i]? = some x ∧ v = .str x u := fun i v e => strs_get sa i v (by rw [Array.getElem?_toList]; exact e)
      refine fill_loop ((Walks.tuple (by simp [calm]) _ l ne vs).toS) s.heap.objs.size nf xs size few val ?fin (vs.size - 0) 0 _ (by omega) (Nat.zero_le _) ⟨⟨_, Heap.get?_push_size _ rfl, rfl, rfl⟩, (hl'.push _)⟩ ?st (Moved.mk (fun _ _ _ e => e) rfl rfl rfl (Nat.le_refl _))
      case st =>
        exact noSet_ok (Heap.get?_push_of_some _ g0)
      case fin =>
        intro z m T
        obtain ⟨h', gg, dr, tk, os⟩ := z
        obtain rfl : gg = s.gens := m.gens
        obtain rfl : dr = s.drawn := m.drawn
        obtain rfl : os = s.os := m.os
        show wpAny _ _ _ _ _ _
        refine wpAny_pure ?_
        show wpAny _ _ (ret Value.none) _ _ _
        refine wpAny_pure ⟨rfl, h', tk, rfl, T, fun b o e => ?_⟩
        have lb : b < s.heap.objs.size := Heap.lt_size e
        refine m.heap b o ?_ (Heap.get?_push_of_some _ (Heap.get?_push_of_some _ e))
        rw [zz]
        simp only [List.mem_cons, List.not_mem_nil, or_false, not_or]
        exact ⟨Nat.ne_of_lt lb, Nat.ne_of_lt (Nat.lt_succ_of_lt lb)⟩
    · match r, hr with
      | .error e, hr => exact hr
      | .ok (.ret o), hr =>
        obtain ⟨rfl, sm⟩ := hr
        repeat (any_goals (first | assumption | wp_step))
        exact k _ sm
      | .ok .next, hr => exact hr.elim
      | .ok .brk, hr => exact hr.elim
      | .ok .cont, hr => exact hr.elim
  | .ok .next, hr => exact hr.elim
  | .ok .brk, hr => exact hr.elim
  | .ok .cont, hr => exact hr.elim

end
end Tq
namespace Tq
open PySem PySem.Spec PyProof.Rows L2
section
variable {P : Program} {w : World} {A : Around} {E : Value → Shared → Prop} {s : Shared} {a : Addr}
theorem strs_of_ents : ∀ l : List Value, (∀ v ∈ l, ∃ x u, v = Value.str x u) → StrsAre l (l.map fun v => kS (0, v))
  | [], _ => .nil
  | v :: l, h => by
    obtain ⟨x, u, rfl⟩ := h v List.mem_cons_self
    exact .cons x u (strs_of_ents l fun y m => h y (List.mem_cons_of_mem _ m))
/-- what sorted(..) of a set of texts leaves -/
theorem sorted_txt {ks : List Str} {Q : Value → Shared → Prop} (T : TSet w s.heap a ks) (calm : A.handled = none)
    (k : ∀ z p (out : Array Value) (c : Nat) (ys : List Str), (∀ b o, s.heap.get? b = some o → z.heap.get? b = some o) → z.gens = s.gens → z.os = s.os → s.heap.objs.size ≤ p →
      z.heap.get? p = some (seqObj "list" out c) → StrsAre out.toList ys → ys.Perm ks → sortedS ys = true → Q (.ref p) z) :
    wpAny (model P w) A (call (.builtin "sorted") [.ref a]) Q E s := by
  obtain ⟨ob, es, ep, tb, g, t⟩ := T
  have z0 : es.size ≤ sizeLine := Nat.le_trans (Nat.le_of_lt t.bd) (by decide)
  refine Calls.call_function_entry kind_sorted plain_sorted entry_sorted (args_sorted1 _) ?_
  unfold Builtin.«sorted»
  refine wpAny_bind (m := checkCount "sorted" 1 1 _) (wpAny_pure (wpAny_bind (collect_set (A := A.in1) calm ⟨ob, g, t.ex.1, t.da⟩ t.ft t.bd t.rs t.ld fun z1 vs k1 k2 k3 k4 pm => ?_)))
  have vl : vs.length ≤ sizeLine := by
    rw [pm.length_eq, List.length_map, Array.length_toList]
    exact z0
  have sa : StrsAre vs (vs.map fun v => kS (0, v)) := strs_of_ents vs fun v m => by
    obtain ⟨e, he, rfl⟩ := List.mem_map.mp (pm.mem_iff.mp m)
    obtain ⟨x, u, rfl⟩ := t.en e he
    exact ⟨x, u, rfl⟩
  have pk : (vs.map fun v => kS (0, v)).Perm ks := by
    refine (pm.map _).trans ?_
    rw [List.map_map]
    exact t.pm
  refine wpAny_bind (wpAny_newList ?_ vl)
  have gl : (z1.heap.push (seqObj "list" vs.toArray 0)).get? z1.heap.objs.size = some (seqObj "list" vs.toArray 0) := Heap.get?_push_size _ rfl
  refine wpAny_bind (wpAny_holding (wpAny_call_entry slot_list_sort ⟨_, gl, rfl⟩ entry_list_sort
    (list_sort_treeKAny strKind_oneLt gl sa.keysOf (fun v₁ v₂ r e => keyKind_strs (e ▸ sa)) vl fun st hp hs => ⟨_, rfl, ?_⟩) (args_list_sort _)))
  obtain ⟨ys, q1, q2, q3⟩ := sorted_out_str sa hp hs
  obtain ⟨c, hc⟩ := sortedHeap_at (vs := vs) (out := (arrOf st).map (·.2)) gl
  refine wpAny_pure ⟨_, rfl, k _ z1.heap.objs.size _ c ys (fun b o e => ?_) k3 k4 k2 hc q1 (q2.trans pk) q3⟩
  have e1 := k1 b o e
  have lt := Heap.lt_size e1
  show (sortedHeap (z1.heap.push (seqObj "list" vs.toArray 0)) z1.heap.objs.size vs _).get? b = some o
  rw [sortedHeap_old (Nat.ne_of_lt lt) (by rw [size_push']; exact Nat.lt_succ_of_lt lt)]
  exact Heap.get?_push_of_some _ e1
end

/-! ### over the layer -/
/-- the set of texts at a, by the layer -/
def TSO (w : World) (a : Addr) (ks : List Str) : HO := .ext fun h => TSet w h a ks
section
variable {X : Cx}
theorem tso_new {w : World} {P : Program} {H : Hp} {h : Heap} {a : Addr} {ks : List Str} (T : TSet w h a ks) : ObjOk P w H h a (TSO w a ks) := by
  have ⟨ob, _, _, _, g, _⟩ := T
  exact ⟨T, ⟨ob, g⟩, fun _ _ p k => p.keep k⟩
theorem tso_get {pins : List (Addr × Obj)} {σ : L2.St} {H : Hp} {s : Shared} {a : Addr} {ks : List Str} (I : Inv X pins σ H s) (g : H a = some (TSO X.w a ks)) : TSet X.w s.heap a ks := (I.hok a _ g).1
/-- set(t), set(l) -/
def rSetT (K : PySem.W.Frag) (w : World) : List V → Hp → VK → Prop := fun vs H Q => ∃ (a : Addr) (xs : List Str), vs = [.ref a] ∧ SqT K H a (xs.map V.str) ∧ xs.length + 1 < scanBound ∧
  ∀ p, H p = none → Q (.ref p) (upd H p (TSO w p (once xs)))
theorem cr_setT (hc : X.calm = true) : CallR X (.type "set") (rSetT X.K X.w) := by
  intro pins s σ H vs us Q I r h
  obtain ⟨a, xs, rfl, hs, few, q⟩ := h
  rw [Vals.ref1 r]
  obtain ⟨its, rv, hl, _⟩ := I.tuple hs
  refine set_tup (I.ok.hd hc) hl (by simpa using rv.strs) few fun z ⟨h', tk, ez, T, kp⟩ => ?_
  subst ez
  exact ⟨.ref _, upd H s.heap.objs.size (TSO X.w s.heap.objs.size (once xs)), I.laid (t' := tk) kp (Nat.le_refl _) (tso_new T), rfl, q _ (I.hok.fresh (Nat.le_refl _))⟩
/-- sorted(set) -/
def rSortT (w : World) : List V → Hp → VK → Prop := fun vs H Q => ∃ (a : Addr) (ks : List Str), vs = [.ref a] ∧ H a = some (TSO w a ks) ∧
  ∀ (ys : List Str) (p : Addr), ys.Perm ks → sortedS ys = true → H p = none → Q (.ref p) (upd H p (.lst (ys.map V.str)))
theorem cr_sortT (hc : X.calm = true) : CallR X (.builtin "sorted") (rSortT X.w) := by
  intro pins s σ H vs us Q I r h
  obtain ⟨a, ks, rfl, g, q⟩ := h
  rw [Vals.ref1 r]
  have T := tso_get I g
  have kl : ks.length ≤ sizeLine := by
    have ⟨ob, es, ep, tb, g', t⟩ := T
    have e := t.len
    have b := t.bd
    exact Nat.le_trans (Nat.le_of_lt (by omega)) (show scanBound ≤ sizeLine by decide)
  refine sorted_txt T (I.ok.hd hc) fun z p out c ys k1 k2 k3 k4 k5 sa pm so => ?_
  have hn : H p = none := I.hok.fresh k4
  have yl : (ys.map V.str).length ≤ sizeLine := by
    rw [List.length_map, pm.length_eq]
    exact kl
  have J : Inv X pins σ (upd H p (.lst (ys.map V.str))) { s with heap := z.heap, gens := z.gens, drawn := z.drawn, toks := z.toks } := by
    refine I.call (ch := []) (Un.laid k1 k4 hn) (I.hok.laid k1 k4 ⟨yl, out.toList, c, vals_of_strs sa, ?_⟩) ?_ (fun _ m => nomatch m)
    · rw [Array.toArray_toList]
      exact k5
    · rw [k2]
      exact I.bare
  have ez : z = { s with heap := z.heap, gens := z.gens, drawn := z.drawn, toks := z.toks } := by
    cases z; cases s; cases k3
    rfl
  rw [ez]
  exact ⟨.ref p, _, J, rfl, q ys p pm so hn⟩
/-- x in s, x not in s -/
def rInT (w : World) (neg : Bool) : R2 := fun x y H Q => ∃ (z : Str) (a : Addr) (ks : List Str), x = .str z ∧ y = .ref a ∧ H a = some (TSO w a ks) ∧ Q (.bl (if neg then !decide (z ∈ ks) else decide (z ∈ ks))) H
theorem op_inT : OpR X (compareOp .In) (rInT X.w false) := by
  intro pins s σ H x y v u Q I rx ry h
  obtain ⟨z, a, ks, rfl, rfl, g, q⟩ := h
  obtain ⟨t, rfl⟩ := rx
  cases ry
  exact wpAny_inSet_of (knd := strKind X.prog X.w) (k := z) (strKind_is _ _ _ _) rfl (tso_get I g).setOf ⟨.bl _, H, I.tok _, rfl, q⟩
theorem op_notInT : OpR X (compareOp .NotIn) (rInT X.w true) := by
  intro pins s σ H x y v u Q I rx ry h
  obtain ⟨z, a, ks, rfl, rfl, g, q⟩ := h
  obtain ⟨t, rfl⟩ := rx
  cases ry
  exact wpAny_notInSet_of (knd := strKind X.prog X.w) (k := z) (strKind_is _ _ _ _) rfl (tso_get I g).setOf ⟨.bl _, H, I.tok _, rfl, q⟩
end
end Tq
namespace Tq
open PySem PySem.Spec PyProof.Rows L2
/-! ### text * int -/
section
variable {X : Cx}
theorem mulOk {z : Str} {n : Int} (h1 : z.length ≤ 1000) (h2 : -1000 ≤ n) (h3 : n ≤ 1000) : MulOk z n := by
  refine ⟨?_, ?_, ?_⟩
  · have a : ¬ n < -(2 ^ 63 : Int) := by omega
    have b : ¬ n ≥ 2 ^ 63 := by omega
    rw [decide_eq_false a, decide_eq_false b]; rfl
  · intro a _ c
    have e : (9223372036854 : Int) ≤ (2 ^ 63 - 1) / n := by
      refine (Int.le_ediv_iff_mul_le (by omega)).mpr ?_
      omega
    omega
  · intro a _
    have e : z.length * n.toNat ≤ 1000 * 1000 := Nat.mul_le_mul h1 (by omega)
    unfold Builtin.Str.tooLong
    have l : sizeLine ≥ 1000 * 1000 := by decide
    simp only [decide_eq_false_iff_not]
    omega
def rMulS : R2 := fun x y H Q => ∃ z n, x = .str z ∧ y = .int n ∧ (z.length ≤ 1000 ∧ -1000 ≤ n ∧ n ≤ 1000) ∧ Q (.str (Txt.mul z n)) H
theorem op_mulS : OpR X (binaryOp .Mult) rMulS := by
  intro pins s σ H x y v u Q I rx ry h
  obtain ⟨z, n, rfl, rfl, ⟨h1, h2, h3⟩, q⟩ := h
  obtain ⟨t, rfl⟩ := rx
  obtain ⟨t', rfl⟩ := ry
  exact SB.mul (mulOk h1 h2 h3) fun t' k => ⟨.str _, H, I.tok _, ⟨_, rfl⟩, q⟩
end
/-! ### a def of the text -/
structure Df (K : PySem.W.Frag) (mg : Str → Option Value) (x : Str) (st : Stmt) (ps : List Str) where
  f : Addr
  fd : FuncData
  F : Fun K x x st f fd
  g : mg x = some (.ref f)
  b : Binds K fd ps []
/-- all but t stands as it stood -/
def But (t : Addr) (H H' : Hp) : Prop := ∀ b o, b ≠ t → H b = some o → H' b = some o
theorem But.trans {t : Addr} {H H1 H2 : Hp} (a : But t H H1) (b : But t H1 H2) : But t H H2 := fun c o n h => b c o n (a c o n h)
theorem But.refl (t : Addr) (H : Hp) : But t H H := fun _ _ _ h => h
theorem Same.but {t : Addr} {H H' : Hp} (a : Same H H') : But t H H' := fun c o _ h => a c o h
theorem But.upd {t : Addr} {H H' : Hp} {o : HO} (a : But t H H') : But t H (L2.upd H' t o) := fun c u n h => by
  rw [upd_ne n]
  exact a c u n h
theorem But.new {t p : Addr} {H H' : Hp} {o : HO} (a : But t H H') (n : H p = none) : But t H (L2.upd H' p o) := fun c u m h => by
  rw [upd_ne (ne_of_none h n)]
  exact a c u m h
theorem But.seq {K : PySem.W.Frag} {t : Addr} {H H' : Hp} {a : Addr} {xs : List V} (e : But t H H') (n : a ≠ t) (h : SqL K H a xs) : SqL K H' a xs := by
  rcases h with (h | ⟨o, h⟩) | h
  · exact .inl (.inl (e _ _ n h))
  · exact .inl (.inr ⟨o, e _ _ n h⟩)
  · exact .inr h
/-- the tape stands at t, its cells at a -/
def Tape (H : Hp) (t a : Addr) : Prop := ∃ (ns : List Int) (p c d : Int), a ≠ t ∧ 0 ≤ p ∧ 0 ≤ c ∧ 0 ≤ d ∧ H a = some (.lst (ns.map V.int)) ∧ H t = some (.lst [.ref a, .int p, .int c, .int d])
end Tq
namespace Tq
open PySem PySem.Spec PyProof.Rows L2
/-! ### the operators by names, and one step back from what follows -/
section
variable {X : Cx} {K : PySem.W.Frag} {H : Hp} {Q : VK} {i j : Int} {σ : L2.St} {a p : Addr} {x y v : V} {xs ys : List V}
def rAddI : R2 := rI0 fun i j => .int (i + j)
def rSubI : R2 := rI0 fun i j => .int (i - j)
def rMulI : R2 := rI CMul fun i j => .int (i * j)
def rModI : R2 := rI (fun _ j => j ≠ 0) fun i j => .int (i.fmod j)
def CDiv64 (_ j : Int) : Prop := 0 < j ∧ j < 18446744073709551616
def rDivI : R2 := rI CDiv64 fun i j => .int (i.fdiv j)
def rPowI : R2 := rI CPow fun i j => .int (i ^ j.toNat)
theorem o_add : OpR X (binaryOp .Add) rAddI := op_add
theorem o_sub : OpR X (binaryOp .Sub) rSubI := op_sub
theorem o_mul : OpR X (binaryOp .Mult) rMulI := op_mul
theorem o_mod : OpR X (binaryOp .Mod) rModI := op_modN
theorem o_div : OpR X (binaryOp .FloorDiv) rDivI := by
  intro pins s σ H x y v u Q I rx ry h
  obtain ⟨i, j, rfl, rfl, ⟨j0, j1⟩, q⟩ := h
  have q : Q (.int (i.fdiv j)) H := q
  rw [Int.fdiv_eq_ediv_of_nonneg i (Int.le_of_lt j0)] at q
  exact op_fdivW pins s σ H _ _ v u Q I rx ry ⟨i, j, rfl, rfl, wide_div (b := 64) (i := i) j0 (by omega) (by decide) (by decide), q⟩
theorem o_pow : OpR X (binaryOp .Pow) rPowI := op_pow
theorem l_add (q : Q (.int (i + j)) H) : rAddI (.int i) (.int j) H Q := ⟨i, j, rfl, rfl, q⟩
theorem l_sub (q : Q (.int (i - j)) H) : rSubI (.int i) (.int j) H Q := ⟨i, j, rfl, rfl, q⟩
theorem l_mul (c : CMul i j) (q : Q (.int (i * j)) H) : rMulI (.int i) (.int j) H Q := ⟨i, j, rfl, rfl, c, q⟩
theorem l_mod (c : j ≠ 0) (q : Q (.int (i.fmod j)) H) : rModI (.int i) (.int j) H Q := ⟨i, j, rfl, rfl, c, q⟩
theorem l_div (c : CDiv64 i j) (q : Q (.int (i.fdiv j)) H) : rDivI (.int i) (.int j) H Q := ⟨i, j, rfl, rfl, c, q⟩
theorem l_pow (c : CPow i j) (q : Q (.int (i ^ j.toNat)) H) : rPowI (.int i) (.int j) H Q := ⟨i, j, rfl, rfl, c, q⟩
def rLtI : R2 := rI0 fun i j => .bl (decide (i < j))
def rLeI : R2 := rI0 fun i j => .bl (decide (i ≤ j))
def rGtI : R2 := rI0 fun i j => .bl (decide (j < i))
def rGeI : R2 := rI0 fun i j => .bl (decide (j ≤ i))
theorem o_lt : OpR X (compareOp .Lt) rLtI := op_lt
theorem o_le : OpR X (compareOp .LtE) rLeI := op_le
theorem o_gt : OpR X (compareOp .Gt) rGtI := op_gt
theorem o_ge : OpR X (compareOp .GtE) rGeI := op_ge
theorem l_lt (q : Q (.bl (decide (i < j))) H) : rLtI (.int i) (.int j) H Q := ⟨i, j, rfl, rfl, q⟩
theorem l_le (q : Q (.bl (decide (i ≤ j))) H) : rLeI (.int i) (.int j) H Q := ⟨i, j, rfl, rfl, q⟩
theorem l_gt (q : Q (.bl (decide (j < i))) H) : rGtI (.int i) (.int j) H Q := ⟨i, j, rfl, rfl, q⟩
theorem l_ge (q : Q (.bl (decide (j ≤ i))) H) : rGeI (.int i) (.int j) H Q := ⟨i, j, rfl, rfl, q⟩
theorem l_eqI (q : Q (.bl (decide (i = j))) H) : rEq (.int i) (.int j) H Q := ⟨rfl, by rw [show decide (V.int i = V.int j) = decide (i = j) by simp]; exact q⟩
theorem l_neI (q : Q (.bl (!decide (i = j))) H) : rNe (.int i) (.int j) H Q := ⟨rfl, by rw [show decide (V.int i = V.int j) = decide (i = j) by simp]; exact q⟩
theorem l_eqS {z u : Str} (q : Q (.bl (decide (z = u))) H) : rEq (.str z) (.str u) H Q := ⟨rfl, by rw [show decide (V.str z = V.str u) = decide (z = u) by simp]; exact q⟩
theorem l_neS {z u : Str} (q : Q (.bl (!decide (z = u))) H) : rNe (.str z) (.str u) H Q := ⟨rfl, by rw [show decide (V.str z = V.str u) = decide (z = u) by simp]; exact q⟩
/-- texts -/
def rAddS' : R2 := fun x y H Q => ∃ i j, x = .str i ∧ y = .str j ∧ i.length + j.length ≤ sizeLine ∧ Q (.str (i ++ j)) H
def rLtS : R2 := fun x y H Q => ∃ i j, x = .str i ∧ y = .str j ∧ Q (.bl (decide (i.cps.toList < j.cps.toList))) H
def rLeS : R2 := fun x y H Q => ∃ i j, x = .str i ∧ y = .str j ∧ Q (.bl (!decide (j.cps.toList < i.cps.toList))) H
theorem o_addS : OpR X (binaryOp .Add) rAddS' := op_add_str
theorem o_ltS : OpR X (compareOp .Lt) rLtS := op_lt_str
theorem o_leS : OpR X (compareOp .LtE) rLeS := op_le_str
theorem l_addS {z u : Str} (c : z.length + u.length ≤ sizeLine) (q : Q (.str (z ++ u)) H) : rAddS' (.str z) (.str u) H Q := ⟨z, u, rfl, rfl, c, q⟩
theorem l_ltS {z u : Str} (q : Q (.bl (decide (z.cps.toList < u.cps.toList))) H) : rLtS (.str z) (.str u) H Q := ⟨z, u, rfl, rfl, q⟩
theorem l_leS {z u : Str} (q : Q (.bl (!decide (u.cps.toList < z.cps.toList))) H) : rLeS (.str z) (.str u) H Q := ⟨z, u, rfl, rfl, q⟩
theorem l_mulS {z : Str} {n : Int} (c : z.length ≤ 1000 ∧ -1000 ≤ n ∧ n ≤ 1000) (q : Q (.str (Txt.mul z n)) H) : rMulS (.str z) (.int n) H Q := ⟨z, n, rfl, rfl, c, q⟩
/-- calls -/
def rInt1 : List V → Hp → VK → Prop := fun xs H Q => ∃ i, xs = [.int i] ∧ Q (.int i) H
def rAbs1 : List V → Hp → VK → Prop := fun xs H Q => ∃ i, xs = [.int i] ∧ Q (.int (if i < 0 then -i else i)) H
def rMaxI : List V → Hp → VK → Prop := fun xs H Q => ∃ i j, xs = [.int i, .int j] ∧ Q (.int (if j > i then j else i)) H
def rMinI : List V → Hp → VK → Prop := fun xs H Q => ∃ i j, xs = [.int i, .int j] ∧ Q (.int (if j < i then j else i)) H
def rStrI : List V → Hp → VK → Prop := fun xs H Q => ∃ i, xs = [.int i] ∧ i.natAbs.log2 < 1920 ∧ Q (.str (toString i)) H
def rLenQ (K : PySem.W.Frag) : List V → Hp → VK → Prop := fun xs H Q => ∃ p ys, xs = [.ref p] ∧ (SqL K H p ys ∨ SqT K H p ys) ∧ Q (.int ys.length) H
def rLenT : List V → Hp → VK → Prop := fun xs H Q => ∃ z, xs = [.str z] ∧ z.length ≤ sizeLine ∧ Q (.int z.length) H
def rListQ (K : PySem.W.Frag) : List V → Hp → VK → Prop := fun xs H Q => ∃ p ys, xs = [.ref p] ∧ (SqL K H p ys ∨ SqT K H p ys) ∧ ∀ l, H l = none → Q (.ref l) (upd H l (.lst ys))
def rTupQ (K : PySem.W.Frag) : List V → Hp → VK → Prop := fun xs H Q => ∃ p ys, xs = [.ref p] ∧ ((SqL K H p ys ∧ ∀ l, H l = none → Q (.ref l) (upd H l (.tup ys))) ∨ (SqT K H p ys ∧ Q (.ref p) H))
theorem c_int : CallR X (.type "int") rInt1 := fun pins s σ H xs us Q I r h => call_int1 pins s σ H xs us Q I r (.inl h)
theorem c_abs : CallR X (.builtin "abs") rAbs1 := call_abs
theorem c_max (hc : X.calm = true) : CallR X (.builtin "max") rMaxI := call_max2 hc
theorem c_min (hc : X.calm = true) : CallR X (.builtin "min") rMinI := call_min2 hc
theorem c_str : CallR X (.type "str") rStrI := call_str_int
theorem c_len : CallR X (.builtin "len") (rLenQ X.K) := call_len_seq
theorem c_lenS : CallR X (.builtin "len") rLenT := call_len_str
theorem c_list : CallR X (.type "list") (rListQ X.K) := call_list_of
theorem c_tuple : CallR X (.type "tuple") (rTupQ X.K) := call_tuple_of
theorem l_int (q : Q (.int i) H) : rInt1 [.int i] H Q := ⟨i, rfl, q⟩
theorem l_abs (q : Q (.int (if i < 0 then -i else i)) H) : rAbs1 [.int i] H Q := ⟨i, rfl, q⟩
theorem l_max (q : Q (.int (if j > i then j else i)) H) : rMaxI [.int i, .int j] H Q := ⟨i, j, rfl, q⟩
theorem l_min (q : Q (.int (if j < i then j else i)) H) : rMinI [.int i, .int j] H Q := ⟨i, j, rfl, q⟩
theorem l_str (c : i.natAbs.log2 < 1920) (q : Q (.str (toString i)) H) : rStrI [.int i] H Q := ⟨i, rfl, c, q⟩
theorem l_lenL (h : SqL K H p ys) (q : Q (.int ys.length) H) : rLenQ K [.ref p] H Q := ⟨p, ys, rfl, .inl h, q⟩
theorem l_lenT (h : SqT K H p ys) (q : Q (.int ys.length) H) : rLenQ K [.ref p] H Q := ⟨p, ys, rfl, .inr h, q⟩
theorem l_lenS {z : Str} (h : z.length ≤ sizeLine) (q : Q (.int z.length) H) : rLenT [.str z] H Q := ⟨z, rfl, h, q⟩
theorem l_listL (h : SqL K H p ys) (q : ∀ l, H l = none → Q (.ref l) (upd H l (.lst ys))) : rListQ K [.ref p] H Q := ⟨p, ys, rfl, .inl h, q⟩
theorem l_tupL (h : SqL K H p ys) (q : ∀ l, H l = none → Q (.ref l) (upd H l (.tup ys))) : rTupQ K [.ref p] H Q := ⟨p, ys, rfl, .inl ⟨h, q⟩⟩
/-- items, stores -/
theorem l_ixL (h : SqL K H p xs) (e : atI xs i = some v) (q : Q v H) : rIxL K (.ref p) (.int i) H Q := ⟨p, xs, i, v, rfl, rfl, h, e, q⟩
theorem l_ixT (h : SqT K H p xs) (e : atI xs i = some v) (q : Q v H) : rIxT K (.ref p) (.int i) H Q := ⟨p, xs, i, v, rfl, rfl, h, e, q⟩
theorem l_ixS {z : Str} {c : Nat} (h : z.length ≤ sizeLine) (e : atI z.cps.toList i = some c) (q : Q (.str ⟨#[c]⟩) H) : rIxS (.str z) (.int i) H Q := ⟨z, i, c, rfl, rfl, h, e, q⟩
theorem l_setL {n : Nat} {R : Hp → Prop} (h : H p = some (.lst xs)) (e : ixN xs.length i = some n) (q : R (upd H p (.lst (xs.set n v)))) : rSetL (.ref p) (.int i) v H R := ⟨p, xs, i, n, rfl, rfl, h, e, q⟩
theorem l_app (h : H p = some (.lst xs)) (n : xs.length < sizeLine) (q : Q .non (upd H p (.lst (xs ++ [v])))) : rAppend (.ref p) [v] H Q := ⟨p, xs, v, rfl, rfl, h, n, q⟩
/-! ### the syntax's own steps -/
variable {ta tb te : TE} {t u : TT} {D : Ends} {A B : TS} {tr : TA} {g : TG} {sp : Sp} {E : XK} {r : R2} {rc : List V → Hp → VK → Prop} {n : Nat}
theorem l_var (h : σ[n]? = some (some v)) (q : Q v H) : tVar n σ H Q := ⟨v, h, q⟩
theorem l_c (q : Q v H) : tC v σ H Q := q
theorem l_op (q : ta σ H fun x H1 => tb σ H1 fun y H2 => r x y H2 Q) : tOp r ta tb σ H Q := q
theorem l_cb (q : tr σ H fun vs H1 => rc vs H1 Q) : tCB rc tr σ H Q := q
theorem l_nil {Q : List V → Hp → Prop} (q : Q [] H) : tNil σ H Q := q
theorem l_cons {Q : List V → Hp → Prop} (q : ta σ H fun x H1 => tr σ H1 fun xs H2 => Q (x :: xs) H2) : tCons ta tr σ H Q := q
theorem l_call (q : tr σ H fun vs H1 => sp vs H1 Q E) : tCall sp [] E tr σ H Q := by
  show tr σ H fun vs H1 => sp (vs ++ []) H1 Q E
  simp only [List.append_nil]
  exact q
theorem l_lst (q : tr σ H fun xs H1 => xs.length ≤ sizeLine ∧ ∀ p, H1 p = none → Q (.ref p) (upd H1 p (.lst xs))) : tLst tr σ H Q := q
theorem l_tup (q : tr σ H fun xs H1 => xs.length ≤ sizeLine ∧ ∀ p, H1 p = none → Q (.ref p) (upd H1 p (.tup xs))) : tTup tr σ H Q := q
theorem l_bm {T : String} {rm : V → List V → Hp → VK → Prop} {to : TE} (q : to σ H fun x H1 => tyV K T x H1 ∧ tr σ H1 fun xs H2 => rm x xs H2 Q) : tBM K T rm to tr σ H Q := q
theorem l_tyL (h : SqL K H p xs) : tyV K "list" (.ref p) H := .inl ⟨rfl, xs, h⟩
theorem l_seq (q : A { D with nx := B D } σ H) : tSeq A B D σ H := q
theorem l_next (q : D.nx σ H) : tNext D σ H := q
theorem l_asg (q : te σ H fun x H1 => g x σ H1 D.nx) : tAsg te g D σ H := q
theorem l_gname {R : L2.St → Hp → Prop} (q : R (σ.set n (some v)) H) : gName n v σ H R := q
theorem l_gsub {R : L2.St → Hp → Prop} {ts : L2.TSet} (q : ta σ H fun o H1 => tb σ H1 fun i H2 => ts o i v H2 fun H3 => R σ H3) : gSub ta tb ts v σ H R := q
theorem l_ret (q : te σ H D.rt) : tRet te D σ H := q
theorem l_drop (q : te σ H fun _ H1 => D.nx σ H1) : tDrop te D σ H := q
theorem l_ifs (q : t σ H fun b H1 => if b = true then A D σ H1 else B D σ H1) : tIfS t A B D σ H := q
theorem l_test {R : Bool → Hp → Prop} (q : te σ H fun x H1 => ∃ k, x = .bl k ∧ R k H1) : tTest te σ H R := q
theorem l_b {R : Bool → Hp → Prop} (q : te σ H fun x H1 => ∃ k, x = .bl k ∧ R k H1) : tB te σ H R := q
theorem l_bl {k : Bool} {R : Bool → Prop} (q : R k) : ∃ c, V.bl k = .bl c ∧ R c := ⟨k, rfl, q⟩
theorem l_not {R : Bool → Hp → Prop} (q : t σ H fun c H1 => R (!c) H1) : tNot t σ H R := q
theorem l_or {R : Bool → Hp → Prop} (q : t σ H fun c H1 => if c = true then R true H1 else u σ H1 R) : tOr t u σ H R := q
theorem l_and {R : Bool → Hp → Prop} (q : t σ H fun c H1 => if c = true then u σ H1 R else R false H1) : tAnd t u σ H R := q
theorem l_aug {ti : TIp} (h : σ[n]? = some (some x)) (q : te σ H fun y H1 => ti x y H1 fun z H2 => D.nx (σ.set n (some z)) H2) : tAug n te ti D σ H := ⟨x, h, q⟩
theorem l_ipI {f : Int → Int → Int} (q : Q (.int (f i j)) H) : ipI f (.int i) (.int j) H Q := ⟨i, j, rfl, rfl, q⟩
theorem l_if {c A B : Prop} [Decidable c] (h1 : c → A) (h2 : ¬ c → B) : if decide c = true then A else B := by
  by_cases h : c
  · rw [if_pos (decide_eq_true h)]; exact h1 h
  · rw [if_neg (by rw [decide_eq_false h]; decide)]; exact h2 h
theorem l_ifN {c A B : Prop} [Decidable c] (h1 : ¬ c → A) (h2 : c → B) : if (!decide c) = true then A else B := by
  by_cases h : c
  · rw [if_neg (by rw [decide_eq_true h]; decide)]; exact h2 h
  · rw [if_pos (by rw [decide_eq_false h]; decide)]; exact h1 h
theorem l_ifT {A B : Prop} (h : A) : if true = true then A else B := by rw [if_pos rfl]; exact h
theorem l_ifF {A B : Prop} (h : B) : if false = true then A else B := by rw [if_neg Bool.false_ne_true]; exact h
theorem l_if2 {b : Bool} {A B : Prop} (h1 : b = true → A) (h2 : b = false → B) : if b = true then A else B := by
  cases b
  · exact l_ifF (h2 rfl)
  · exact l_ifT (h1 rfl)
theorem sqL (h : H p = some (.lst xs)) : SqL K H p xs := .inl (.inl h)
theorem sqT (h : H p = some (.tup xs)) : SqT K H p xs := .inl (.inl h)
end
end Tq
namespace Tq
open PySem PySem.Spec PyProof.Rows L2
theorem atI_some {α : Type} {xs : List α} {i : Int} (h0 : 0 ≤ i) (h1 : i < xs.length) : ∃ x, atI xs i = some x ∧ xs[i.toNat]? = some x := by
  have l : i.toNat < xs.length := by omega
  refine ⟨xs[i.toNat], ?_, List.getElem?_eq_getElem l⟩
  unfold atI ixN
  rw [if_pos h0, if_pos h1]
  exact List.getElem?_eq_getElem l
theorem atI_map {α β : Type} {f : α → β} {xs : List α} {i : Int} (h0 : 0 ≤ i) (h1 : i < xs.length) : ∃ x, atI (xs.map f) i = some (f x) ∧ xs[i.toNat]? = some x := by
  obtain ⟨y, e1, e2⟩ := atI_some (xs := xs.map f) h0 (by rw [List.length_map]; exact h1)
  rw [List.getElem?_map] at e2
  cases e : xs[i.toNat]? with
  | none => rw [e] at e2; cases e2
  | some x =>
    rw [e] at e2
    cases e2
    exact ⟨x, e1, rfl⟩
theorem fmod_lt {i j : Int} (h : 0 ≤ i) (hj : 0 < j) : 0 ≤ i.fmod j ∧ i.fmod j < j := by
  rw [Int.fmod_eq_emod_of_nonneg i (Int.le_of_lt hj)]
  exact ⟨Int.emod_nonneg i (by omega), Int.emod_lt_of_pos i hj⟩
theorem fdiv_nn {i j : Int} (h : 0 ≤ i) (hj : 0 < j) : 0 ≤ i.fdiv j := by
  rw [Int.fdiv_eq_ediv_of_nonneg i (Int.le_of_lt hj)]
  exact Int.ediv_nonneg h (by omega)
theorem abs_nn (i : Int) : 0 ≤ (if i < 0 then -i else i) := by split <;> omega
theorem max_eq (i j : Int) : (if j > i then j else i) = max i j := by
  rw [Int.max_def]; split <;> split <;> omega
end Tq
namespace Tq
open PySem PySem.Spec PyProof.Rows L2
/-! ### texts in ascending order -/
abbrev tl (x y : Str) : Prop := x.cps.toList < y.cps.toList
theorem tl_irrefl (x : Str) : ¬ tl x x := List.lt_irrefl _
theorem tl_trans {x y z : Str} (a : tl x y) (b : tl y z) : tl x z := List.lt_trans a b
theorem tl_tri (x y : Str) : tl x y ∨ x = y ∨ tl y x := by
  by_cases a : tl x y
  · exact .inl a
  · by_cases b : tl y x
    · exact .inr (.inr b)
    · refine .inr (.inl ?_)
      have e : x.cps.toList = y.cps.toList := List.le_antisymm (List.not_lt.mp b) (List.not_lt.mp a)
      cases x; cases y
      simpa using Array.toList_inj.mp e
theorem sortedS_pw : ∀ {ys : List Str}, sortedS ys = true → ys.Pairwise (fun a b => ¬ tl b a)
  | [], _ => .nil
  | [x], _ => by simp
  | x :: y :: r, h => by
    have h1 : (!ltCps y.cps.toList x.cps.toList && risingS y r) = true := h
    rw [Bool.and_eq_true, Bool.not_eq_true', ltCps_eq, decide_eq_false_iff_not] at h1
    have ih := sortedS_pw (ys := y :: r) h1.2
    refine List.pairwise_cons.mpr ⟨fun z m => ?_, ih⟩
    rcases List.mem_cons.mp m with e | e
    · rw [e]; exact h1.1
    · have h2 := (List.pairwise_cons.mp ih).1 z e
      intro c
      rcases tl_tri x y with d | d | d
      · exact h2 (tl_trans c d)
      · exact h2 (d ▸ c)
      · exact h1.1 d
/-- strictly ascending -/
abbrev Up (ys : List Str) : Prop := ys.Pairwise tl
theorem up_of {ys : List Str} (h : sortedS ys = true) (n : ys.Nodup) : Up ys := by
  have a := sortedS_pw h
  refine (a.and n).imp fun {x y} h => ?_
  rcases tl_tri x y with d | d | d
  · exact d
  · exact absurd d h.2
  · exact absurd d h.1
theorem up_nd {ys : List Str} (h : Up ys) : ys.Nodup := List.Pairwise.imp (S := fun x y => x ≠ y) (fun {x y} (d : tl x y) (e : x = y) => tl_irrefl y (e ▸ d)) h
/-- two ascending lists with the same members are one -/
theorem up_one : ∀ {xs ys : List Str}, Up xs → Up ys → (∀ z, z ∈ xs ↔ z ∈ ys) → xs = ys
  | [], [], _, _, _ => rfl
  | [], y :: r, _, _, h => absurd ((h y).mpr List.mem_cons_self) (by simp)
  | x :: r, [], _, _, h => absurd ((h x).mp List.mem_cons_self) (by simp)
  | x :: r, y :: t, hx, hy, h => by
    have hx' := List.pairwise_cons.mp hx
    have hy' := List.pairwise_cons.mp hy
    have e : x = y := by
      rcases List.mem_cons.mp ((h x).mp List.mem_cons_self) with e | e
      · exact e
      · rcases List.mem_cons.mp ((h y).mpr List.mem_cons_self) with e2 | e2
        · exact e2.symm
        · exact absurd (tl_trans (hx'.1 y e2) (hy'.1 x e)) (tl_irrefl x)
    subst e
    rw [up_one (xs := r) (ys := t) hx'.2 hy'.2 fun z => ?_]
    constructor
    · intro m
      rcases List.mem_cons.mp ((h z).mp (List.mem_cons_of_mem _ m)) with e | e
      · exact absurd (hx'.1 z m) (by rw [e]; exact tl_irrefl x)
      · exact e
    · intro m
      rcases List.mem_cons.mp ((h z).mpr (List.mem_cons_of_mem _ m)) with e | e
      · exact absurd (hy'.1 z m) (by rw [e]; exact tl_irrefl x)
      · exact e
/-- ys is xs in ascending order, each once -/
structure IsAsc (ys xs : List Str) : Prop where
  up : Up ys
  mem : ∀ z, z ∈ ys ↔ z ∈ xs
theorem isAsc_of {ys xs : List Str} (p : ys.Perm (once xs)) (s : sortedS ys = true) : IsAsc ys xs :=
  ⟨up_of s (p.nodup_iff.mpr (once_nd xs)), fun z => (p.mem_iff).trans (once_mem xs z)⟩
theorem IsAsc.self {ys : List Str} (h : Up ys) : IsAsc ys ys := ⟨h, fun _ => Iff.rfl⟩
theorem IsAsc.one {ys zs xs : List Str} (a : IsAsc ys xs) (b : IsAsc zs xs) : ys = zs := up_one a.up b.up fun z => (a.mem z).trans (b.mem z).symm
theorem IsAsc.len {ys xs : List Str} (a : IsAsc ys xs) : ys.length ≤ xs.length := by
  have e : ys.Perm (once xs) := (List.perm_ext_iff_of_nodup (up_nd a.up) (once_nd xs)).mpr fun z => (a.mem z).trans (once_mem xs z).symm
  rw [e.length_eq]
  exact once_len xs
/-! ### what a text is [20] -/
structure IsText (z : Str) : Prop where
  len : z.length ≤ 12
  ok : ∀ c ∈ z.cps.toList, 32 ≤ c ∧ c ≤ 126 ∧ c ≠ 34 ∧ c ≠ 37
/-! ### the tape -/
section
variable {K : PySem.W.Frag} {H H' : Hp} {t a p : Addr} {o u : HO}
theorem Tape.same (h : Tape H t a) (e : Same H H') : Tape H' t a := by
  obtain ⟨ns, p, c, d, n, h1, h2, h3, h4, h5⟩ := h
  exact ⟨ns, p, c, d, n, h1, h2, h3, e _ _ h4, e _ _ h5⟩
theorem Tape.ne (h : Tape H t a) (n : H p = none) : p ≠ t ∧ p ≠ a := by
  obtain ⟨ns, q, c, d, n', h1, h2, h3, h4, h5⟩ := h
  exact ⟨(ne_of_none h5 n).symm, (ne_of_none h4 n).symm⟩
theorem Tape.put (h : Tape H t a) (n1 : p ≠ t) (n2 : p ≠ a) : Tape (L2.upd H p u) t a := by
  obtain ⟨ns, q, c, d, n', h1, h2, h3, h4, h5⟩ := h
  exact ⟨ns, q, c, d, n', h1, h2, h3, by rw [upd_ne n2.symm]; exact h4, by rw [upd_ne n1.symm]; exact h5⟩
theorem new_same (h : H p = none) : Same H (L2.upd H p o) := fun b x e => by
  rw [upd_ne (ne_of_none e h)]
  exact e
end
end Tq
namespace Tq
open PySem PySem.Spec PyProof.Rows L2
theorem mul1_list (c : Nat) (n : Int) : (Txt.mul ⟨#[c]⟩ n).cps.toList = List.replicate n.toNat c := mul_one_list c n
theorem mul1_len (c : Nat) (n : Int) : (Txt.mul ⟨#[c]⟩ n).length = n.toNat := by
  have e := congrArg List.length (mul1_list c n)
  rw [List.length_replicate, Array.length_toList] at e
  exact e
theorem app_len (x y : Str) : (x ++ y).length = x.length + y.length := Array.size_append
theorem app_list (x y : Str) : (x ++ y).cps.toList = x.cps.toList ++ y.cps.toList := Array.toList_append
theorem one_len (c : Nat) : (⟨#[c]⟩ : Str).length = 1 := rfl
theorem fits {n : Nat} (h : n ≤ 1000000) : n ≤ sizeLine := Nat.le_trans h (by decide)
theorem fits_lt {n : Nat} (h : n < 1000000) : n < sizeLine := Nat.lt_of_lt_of_le h (by decide)
end Tq
namespace Tq
open PySem PySem.Spec PyProof.Rows L2
section
variable {X : Cx} {K : PySem.W.Frag} {H : Hp} {Q : VK} {i j : Int} {σ : L2.St} {a p : Addr} {x y v : V} {xs ys : List V} {ta tb te : TE} {t u : TT} {D : Ends} {A B : TS} {tr : TA} {g : TG}
theorem l_lc {wi : TI} {vs : List Nat} (q : wi σ H fun J H1 => ∀ D, H1 D = none → ∃ W : Nat → Nat → Hp → Prop, (∃ m, W 0 m (upd H1 D (.lst []))) ∧ ∀ i m H, W i m H →
  (J.stop i H ∧ Q (.ref D) H) ∨ (J.go i H ∧ ∃ Nx : Hp → Prop, (∀ H', Nx H' → ∃ m', m' < m ∧ W (i + 1) m' H') ∧ ∀ x H', J.yld i H x H' → g x (wipe σ vs) H' fun σ2 H2 => wipe σ2 vs = wipe σ vs ∧ t σ2 H2 fun b H3 =>
    if b = true then te σ2 H3 fun y H4 => ∃ acc, H4 D = some (.lst acc) ∧ acc.length < sizeLine ∧ Nx (upd H4 D (.lst (acc ++ [y]))) else Nx H3)) : tLc wi g t te vs σ H Q := q
theorem l_for {wi : TI} (q : wi σ H fun J H1 => ∃ W : Nat → Nat → L2.St → Hp → Prop, (∃ m, W 0 m σ H1) ∧ ∀ i m σ H, W i m σ H →
  (J.stop i H ∧ D.nx σ H) ∨ (J.go i H ∧ ∃ N : L2.St → Hp → Prop, (∀ σ' H', N σ' H' → ∃ m', m' < m ∧ W (i + 1) m' σ' H') ∧ ∀ x H', J.yld i H x H' → g x σ H' fun σ2 H2 => A { D with nx := N, ct := N, bk := D.nx } σ2 H2)) : tFor wi g A D σ H := q
theorem l_rng1 {R : It → Hp → Prop} (q : tr σ H fun vs H1 => ∃ j : Int, vs = [.int j] ∧ -(2 ^ 62) ≤ j ∧ j < 2 ^ 62 ∧ R (Itr 0 j.toNat) H1) : iRng1 tr σ H R := q
theorem l_ilist {R : It → Hp → Prop} (q : ta σ H fun x H1 => ∃ a, x = .ref a ∧ (∃ xs, SqL K H1 a xs) ∧ R (Itl K a) H1) : iList K ta σ H R := q
theorem l_itup {R : It → Hp → Prop} (q : ta σ H fun x H1 => ∃ a, x = .ref a ∧ (∃ xs, SqT K H1 a xs) ∧ R (Itt K a) H1) : iTup K ta σ H R := q
theorem l_yes {R : Bool → Hp → Prop} (q : R true H) : tYes σ H R := q
theorem l_in {z : Str} {zs : List Str} {neg : Bool} (h : SqL K H p (zs.map V.str) ∨ SqT K H p (zs.map V.str)) (q : Q (.bl (if neg then !decide (z ∈ zs) else decide (z ∈ zs))) H) : rIn K neg (.str z) (.ref p) H Q := by
  have e : inV (.str z) (zs.map V.str) = decide (z ∈ zs) := by
    unfold inV
    rw [List.any_map]
    by_cases m : z ∈ zs
    · rw [decide_eq_true m]
      exact List.any_eq_true.mpr ⟨z, m, by simp [eqV]⟩
    · rw [decide_eq_false m]
      refine List.any_eq_false.mpr fun y hy c => m ?_
      have : y = z := by simpa [eqV] using c
      exact this ▸ hy
  refine ⟨p, _, rfl, h, rfl, ?_, ?_⟩
  · rw [List.all_map]; exact List.all_eq_true.mpr fun _ _ => rfl
  · rw [e]; exact q
theorem strOk_text {z : Str} (h : IsText z) : PyData.strOk z = true := by
  unfold PyData.strOk
  rw [← Array.all_toList, List.all_eq_true]
  intro c m
  have := h.ok c m
  exact decide_eq_true (by omega)
/-- == of two tuples of texts -/
theorem l_eqT {q1 q2 : Addr} {zs us : List Str} (h1 : SqT K H q1 (zs.map V.str)) (h2 : SqT K H q2 (us.map V.str)) (o1 : ∀ z ∈ zs, PyData.strOk z = true) (o2 : ∀ z ∈ us, PyData.strOk z = true) (q : Q (.bl (decide (zs = us))) H) : rEqD K (.ref q1) (.ref q2) H Q := by
  have da : ∀ l : List Str, DpAll K H (l.map V.str) (l.map PyData.str) := fun l => by
    induction l with
    | nil => exact .nil
    | cons x r ih => exact .cons (.str x) ih
  have cl : ∀ l : List Str, (∀ z ∈ l, PyData.strOk z = true) → PyData.canLayAll0 (l.map PyData.str) = true ∧ PyData.depthAll (l.map PyData.str) = 0 := fun l => by
    induction l with
    | nil => intro _; exact ⟨rfl, rfl⟩
    | cons x r ih =>
      intro h
      obtain ⟨a, b⟩ := ih fun z m => h z (List.mem_cons_of_mem _ m)
      have c := h x List.mem_cons_self
      rw [List.map_cons]
      constructor
      · show (PyData.canLay0 (.str x) && PyData.canLayAll0 (r.map PyData.str)) = true
        rw [a]
        show (PyData.strOk x && true) = true
        rw [c]; rfl
      · show max (PyData.depth (.str x)) (PyData.depthAll (r.map PyData.str)) = 0
        rw [b]; rfl
  have sh : ∀ l : List Str, (∀ z ∈ l, PyData.strOk z = true) → SeqAt.shaped (.tuple (l.map PyData.str)) = true := fun l h => by
    obtain ⟨a, b⟩ := cl l h
    show (PyData.canLayAll0 (l.map PyData.str) && decide (PyData.depthAll (l.map PyData.str) + 1 ≤ 64)) = true
    rw [a, b]; rfl
  have ev : ∀ l r : List Str, PyData.eqvAll (l.map PyData.str) (r.map PyData.str) = decide (l = r) := fun l => by
    induction l with
    | nil => intro r; cases r <;> simp [PyData.eqvAll]
    | cons x l ih =>
      intro r
      cases r with
      | nil => simp [PyData.eqvAll]
      | cons y r => rw [List.map_cons, List.map_cons, PyData.eqvAll, PyData.eqv, ih r]; by_cases e : x = y <;> simp [e]
  refine ⟨.tuple (zs.map .str), .tuple (us.map .str), .tup h1 (da zs), .tup h2 (da us), sh zs o1, sh us o2, ?_⟩
  have e : PyData.eqv (.tuple (zs.map PyData.str)) (.tuple (us.map PyData.str)) = decide (zs = us) := ev zs us
  rw [e]; exact q
end
end Tq
namespace Tq
open PySem PySem.Spec PyProof.Rows L2
/-! ### the rules that speak of the written part, told over K -/
section
variable {X : Cx} {K : PySem.W.Frag} {w : World} {tg e : Expr} {te : TE}
theorem k_len (h : X.K = K) : CallR X (.builtin "len") (rLenQ K) := h ▸ c_len
theorem k_list (h : X.K = K) : CallR X (.type "list") (rListQ K) := h ▸ c_list
theorem k_tuple (h : X.K = K) : CallR X (.type "tuple") (rTupQ K) := h ▸ c_tuple
theorem k_ixL (h : X.K = K) : IxR X (rIxL K) := h ▸ ix_list
theorem k_ixT (h : X.K = K) : IxR X (rIxT K) := h ▸ ix_tup
theorem k_slL (h : X.K = K) : SlR X (rSlL K) := h ▸ sl_list
theorem k_slT (h : X.K = K) : SlR X (rSlT K) := h ▸ sl_tup
theorem k_in (h : X.K = K) : OpR X (compareOp .In) (rIn K false) := h ▸ op_in_seq
theorem k_notIn (h : X.K = K) : OpR X (compareOp .NotIn) (rIn K true) := h ▸ op_notIn_seq
theorem k_eqD (h : X.K = K) (hu : X.A.units + 64 < cLine) : OpR X (compareOp .Eq) (rEqD K) := h ▸ op_eqD hu
theorem k_neD (h : X.K = K) (hu : X.A.units + 64 < cLine) : OpR X (compareOp .NotEq) (rNeD K) := h ▸ op_neD hu
theorem k_set (h : X.K = K) (h2 : X.w = w) (hc : X.calm = true) : CallR X (.type "set") (rSetT K w) := h ▸ h2 ▸ cr_setT hc
theorem k_sorted (h2 : X.w = w) (hc : X.calm = true) : CallR X (.builtin "sorted") (rSortT w) := h2 ▸ cr_sortT hc
theorem k_sortedL (h : X.K = K) : CallR X (.builtin "sorted") (rSortedS K) := h ▸ cr_sortedS
theorem k_inT (h2 : X.w = w) : OpR X (compareOp .In) (rInT w false) := h2 ▸ op_inT
theorem k_notInT (h2 : X.w = w) : OpR X (compareOp .NotIn) (rInT w true) := h2 ▸ op_notInT
theorem k_isi (h : X.K = K) : CallR X (.builtin "isinstance") (rIsi K) := h ▸ call_isi
theorem k_piL (h : X.K = K) (he : PE X e te) : PI X tg e (iList K te) := h ▸ pi_list he
theorem k_piT (h : X.K = K) (he : PE X e te) : PI X tg e (iTup K te) := h ▸ pi_tup he
end
end Tq
namespace Tq
open PySem PySem.Spec PyProof.Rows L2
section
variable {K : PySem.W.Frag} {H : Hp} {Q : VK} {p : Addr} {x : V} {xs : List V}
theorem ty_T (h : SqT K H p xs) : TyX K H (.ref p) (.type "tuple") := by
  rcases h with (h | ⟨o, h⟩) | ⟨o, its, n, h1, h2, _⟩
  · exact .base (.tup h)
  · exact .fTuple h
  · exact .kTuple h1 h2
theorem l_isi {t n : String} {b : Bool} (ty : TyX K H x (.type t)) (h : kitB t n = some b) (q : Q (.bl b) H) : rIsi K [x, .ty n] H Q := ⟨x, _, _, _, b, rfl, .ty n, ty, kit_ty h, q⟩
theorem kit_TT : kitB "tuple" "tuple" = some true := by decide +kernel
theorem kit_SS : kitB "str" "str" = some true := by decide +kernel
theorem kit_TS : kitB "tuple" "str" = some false := by decide +kernel
theorem kit_NS : kitB "NoneType" "str" = some false := by decide +kernel
theorem l_isTT (h : SqT K H p xs) (q : Q (.bl true) H) : rIsi K [.ref p, .ty "tuple"] H Q := l_isi (ty_T h) kit_TT q
theorem l_isSS {z : Str} (q : Q (.bl true) H) : rIsi K [.str z, .ty "str"] H Q := l_isi (.base (.str z)) kit_SS q
theorem l_isTS (h : SqT K H p xs) (q : Q (.bl false) H) : rIsi K [.ref p, .ty "str"] H Q := l_isi (ty_T h) kit_TS q
theorem l_isNS (q : Q (.bl false) H) : rIsi K [.non, .ty "str"] H Q := l_isi (.base .non) kit_NS q
end
end Tq
namespace Tq
theorem l_ifNT {A B : Prop} (h : B) : if (!true) = true then A else B := h
theorem l_ifNF {A B : Prop} (h : A) : if (!false) = true then A else B := h
end Tq
namespace Tq
open PySem PySem.Spec PyProof.Rows L2
/-- a def of the text, by what the top has left -/
def df_mk {K : PySem.W.Frag} {h : Heap} {mg : Str → Option Value} {x : Str} {st : Stmt} {ps : List Str} (X : K.In h) (G : h.Ns mainGlobals mg) {f : Addr} {od an : Option Addr} {sl : Array (Option Value)} {oc kV dc pm cd ct : Value}
    (a : PySem.W.nsIn K mainGlobals x = some (some (.ref f))) (l : K.lookup f = some ⟨oc, od, .func (PySem.W.fnOf x x (defArgs st) (defBody st) (defScope st) .none kV dc pm an cd ct), sl⟩) (c : PySem.W.codeIn K cd x = true) (k : PySem.W.keepIn K (.ref f) = true)
    (b : ∀ (kV doc pm : Value) (an : Option Addr) (cdv ct : Value) (us : List Value), us.length = ps.length → bindArgs (PySem.W.fnOf x x (defArgs st) (defBody st) (defScope st) .none kV doc pm an cdv ct) ⟨us, []⟩ = pure (ps.zip us)) : Df K mg x st ps :=
  ⟨f, _, fun_mk l c k, PySem.W.mg_of X G a, (fun_mk (x := x) (qual := x) (st := st) l c k).binds b⟩
end Tq
namespace Tq
open PySem PySem.Spec PyProof.Rows L2
/-! ### texts with a number -/
abbrev numS (k : Nat) : Str := Str.ofString (toString (k : Int))
theorem numS_list (k : Nat) : (numS k).cps.toList = (Nat.toDigits 10 k).map Char.toNat := by
  show (Str.ofString (toString (k : Int))).cps.toList = _
  rw [Str.ofString_eq_toList, Int.toString_eq_repr]
  show ((Int.repr (k : Int)).toList.map Char.toNat).toArray.toList = _
  have e : Int.repr (k : Int) = Nat.repr k := rfl
  rw [e, Nat.repr_eq_ofList_toDigits]
  simp
theorem numS_inj {i j : Nat} (h : numS i = numS j) : i = j := by
  have e : (Nat.toDigits 10 i).map Char.toNat = (Nat.toDigits 10 j).map Char.toNat := by rw [← numS_list, ← numS_list, h]
  have e2 : Nat.toDigits 10 i = Nat.toDigits 10 j := by
    refine List.map_inj_right (f := Char.toNat) (fun a b h => ?_) |>.mp e
    exact Char.toNat_inj.mp h
  rw [← Nat.ofDigitChars_toDigits (b := 10) (n := i) (by decide) (by decide), e2, Nat.ofDigitChars_toDigits (by decide) (by decide)]
theorem numS_len {k : Nat} (h : k < 100000) : (numS k).length ≤ 5 := toString_length_le (by omega) (by decide) (by omega)
theorem numS_ok (k : Nat) : ∀ c ∈ (numS k).cps.toList, 48 ≤ c ∧ c ≤ 57 := by
  intro c hc
  rw [numS_list] at hc
  obtain ⟨d, hd, rfl⟩ := List.mem_map.mp hc
  have := Nat.isDigit_of_mem_toDigits (by decide) (by decide) hd
  simp only [Char.isDigit, Bool.and_eq_true, decide_eq_true_eq] at this
  have h1 := this.1; have h2 := this.2
  constructor
  · exact h1
  · exact h2
/-- the letter and a number -/
def nm (z : Str) (k : Nat) : Str := z ++ numS k
theorem nm_inj {z : Str} {i j : Nat} (h : nm z i = nm z j) : i = j := by
  refine numS_inj ?_
  have e : z.cps ++ (numS i).cps = z.cps ++ (numS j).cps := congrArg Str.cps h
  have e2 := (Array.append_right_inj z.cps).mp e
  generalize numS i = a at e2 ⊢
  generalize numS j = b at e2 ⊢
  cases a; cases b
  simp only at e2
  rw [e2]
theorem nm_len {z : Str} {k : Nat} (h : k < 100000) : (nm z k).length ≤ z.length + 5 := by
  unfold nm
  rw [app_len]
  have := numS_len h
  omega
theorem strOk_app {x y : Str} (a : PyData.strOk x = true) (b : PyData.strOk y = true) : PyData.strOk (x ++ y) = true := by
  unfold PyData.strOk at *
  rw [← Array.all_toList] at *
  rw [app_list, List.all_append, a, b]; rfl
theorem strOk_num (k : Nat) : PyData.strOk (numS k) = true := by
  unfold PyData.strOk
  rw [← Array.all_toList, List.all_eq_true]
  intro c m
  have := numS_ok k c m
  exact decide_eq_true (by omega)
theorem strOk_nm {z : Str} (h : PyData.strOk z = true) (k : Nat) : PyData.strOk (nm z k) = true := strOk_app h (strOk_num k)
theorem empty_app (z : Str) : Str.empty ++ z = z := by
  have : (Str.empty ++ z).cps = z.cps := by
    show #[] ++ z.cps = z.cps
    simp
  generalize Str.empty ++ z = a at this ⊢
  cases a; cases z
  simp only at this
  rw [this]
/-- of the letter and 1, 2, .. n those that are not in xs -/
def named (z : Str) (xs : List Str) (n : Nat) : List Str := ((List.range' 1 n).map (nm z)).filter fun t => !decide (t ∈ xs)
theorem named_succ (z : Str) (xs : List Str) (n : Nat) : named z xs (n + 1) = named z xs n ++ (if nm z (n + 1) ∈ xs then [] else [nm z (n + 1)]) := by
  unfold named
  rw [List.range'_concat, List.map_append, List.filter_append]
  congr 1
  rw [show 1 + 1 * n = n + 1 by omega]
  by_cases h : nm z (n + 1) ∈ xs <;> simp [h]
theorem named_add (z : Str) (xs : List Str) (n k : Nat) : ∃ r, named z xs (n + k) = named z xs n ++ r := by
  induction k with
  | zero => exact ⟨[], by simp⟩
  | succ k ih =>
    obtain ⟨r, e⟩ := ih
    rw [← Nat.add_assoc, named_succ, e]
    exact ⟨_, List.append_assoc ..⟩
/-- so many are in xs at most -/
theorem named_len (z : Str) (xs : List Str) (n : Nat) : n ≤ (named z xs n).length + xs.length := by
  have nd : (((List.range' 1 n).map (nm z)).filter fun t => decide (t ∈ xs)).Nodup := by
    refine List.Pairwise.filter _ ?_
    refine List.Pairwise.map _ (fun a b (h : a ≠ b) e => h (nm_inj e)) (List.nodup_range' (s := 1) (n := n))
  have sub : (((List.range' 1 n).map (nm z)).filter fun t => decide (t ∈ xs)) ⊆ xs := by
    intro t m
    exact of_decide_eq_true (List.mem_filter.mp m).2
  have l := List.Nodup.length_le_of_subset nd sub
  have s : ∀ l : List Str, l.length = (l.filter fun t => decide (t ∈ xs)).length + (l.filter fun t => !decide (t ∈ xs)).length := fun l => by
    induction l with
    | nil => rfl
    | cons a r ih =>
      by_cases h : a ∈ xs
      · simp [h]; omega
      · simp [h]; omega
  have s2 := s ((List.range' 1 n).map (nm z))
  rw [List.length_map, List.length_range'] at s2
  unfold named
  omega
/-- the first m of them -/
def firstN (z : Str) (m : Nat) (xs : List Str) : List Str := (named z xs (m + xs.length)).take m
theorem firstN_of {z : Str} {m n : Nat} {xs : List Str} (h : (named z xs n).length = m) : named z xs n = firstN z m xs := by
  unfold firstN
  rcases Nat.le_total n (m + xs.length) with l | l
  · obtain ⟨k, e⟩ := Nat.le.dest l
    obtain ⟨r, er⟩ := named_add z xs n k
    rw [← e, er, ← h, List.take_left]
  · obtain ⟨k, e⟩ := Nat.le.dest l
    obtain ⟨r, er⟩ := named_add z xs (m + xs.length) k
    rw [e] at er
    have l1 := named_len z xs (m + xs.length)
    have l2 : (named z xs (m + xs.length)).length + r.length = m := by rw [← List.length_append, ← er, h]
    have r0 : r = [] := List.eq_nil_of_length_eq_zero (by omega)
    rw [er, r0, List.append_nil, List.take_of_length_le (by omega)]
theorem firstN_len (z : Str) (m : Nat) (xs : List Str) : (firstN z m xs).length = m := by
  unfold firstN
  rw [List.length_take]
  have := named_len z xs (m + xs.length)
  omega
theorem firstN_ok {z : Str} {m : Nat} {xs : List Str} : ∀ t ∈ firstN z m xs, ∃ k, t = nm z k ∧ k ≤ m + xs.length := by
  intro t ht
  have h := (List.mem_filter.mp (List.mem_of_mem_take ht)).1
  obtain ⟨k, hk, rfl⟩ := List.mem_map.mp h
  have := List.mem_range'_1.mp hk
  exact ⟨k, rfl, by omega⟩
end Tq
namespace Tq
open PySem PySem.Spec PyProof.Rows L2
/-- a def of one parameter and one by its name alone, whose default is () -/
structure Dk (K : PySem.W.Frag) (mg : Str → Option Value) (x : Str) (st : Stmt) (a k : Str) where
  f : Addr
  fd : FuncData
  e0 : Addr
  F : FunD K x x (defArgs st) (defBody st) (defScope st) [] [(k, .ref e0)] f fd
  g : mg x = some (.ref f)
  et : ∀ H : Hp, SqT K H e0 []
  b : ∃ ds, Vals [V.ref e0] ds ∧ Binds K fd [a, k] ds
  kb : KBn K fd [a, k] 1 [k] (fun us ws => us ++ ws) (fun vs zs => vs ++ zs)
def dk_mk {K : PySem.W.Frag} {h : Heap} {mg : Str → Option Value} {x a k : Str} {st : Stmt} (X : K.In h) (G : h.Ns mainGlobals mg) {f kd ke : Addr} {od an : Option Addr} {sl : Array (Option Value)} {oc dc pm cd ct : Value} {ko : Obj} {n : Nat}
    (ha : PySem.W.nsIn K mainGlobals x = some (some (.ref f))) (l : K.lookup f = some ⟨oc, od, .func (PySem.W.fnOf x x (defArgs st) (defBody st) (defScope st) .none (.ref kd) dc pm an cd ct), sl⟩) (c : PySem.W.codeIn K cd x = true) (kp : PySem.W.keepIn K (.ref f) = true)
    (hn : PySem.W.nsIn K kd k = some (some (.ref ke))) (ho : K.lookup ke = some ko) (ht : ko.cls = .type "tuple") (hd : ko.data = .seq #[] n)
    (h1 : ∀ (D : Addr) (doc pm : Value) (an : Option Addr) (cdv ct : Value) (us ks : List Value), us.length = 1 → ks.length = 1 →
      KwChain D (([(k, V.ref ke)].map (·.1)).zip ks) (bindArgs (PySem.W.fnOf x x (defArgs st) (defBody st) (defScope st) .none (.ref D) doc pm an cdv ct) ⟨us, []⟩) ([a, k].zip (us ++ ks)))
    (h2 : ∀ (kV doc pm : Value) (an : Option Addr) (cdv ct : Value) (us ws : List Value), us.length = 1 → ws.length = 1 →
      bindArgs (PySem.W.fnOf x x (defArgs st) (defBody st) (defScope st) .none kV doc pm an cdv ct) ⟨us, [k].zip ws⟩ = pure ([a, k].zip (us ++ ws))) : Dk K mg x st a k := by
  have F : FunD K x x (defArgs st) (defBody st) (defScope st) [] [(k, V.ref ke)] f (PySem.W.fnOf x x (defArgs st) (defBody st) (defScope st) .none (.ref kd) dc pm an cd ct) := by
    refine ⟨⟨oc, od, .none, .ref kd, dc, pm, an, cd, ct, sl, rfl, l, c, .inl ⟨rfl, rfl⟩, .inr ⟨kd, rfl, fun q hq => ?_⟩⟩, kp⟩
    rw [List.mem_singleton.mp hq]
    exact ⟨.ref ke, hn, rfl⟩
  refine ⟨f, _, ke, F, PySem.W.mg_of X G ha, fun H => .inr ⟨ko, #[], n, ho, ht, hd, Nat.zero_le _, .nil⟩, ?_, ⟨fun s us ws XI l1 l2 => .of_eq (h2 _ _ _ _ _ _ us ws l1 l2), fun r1 r2 => r1.append r2⟩⟩
  obtain ⟨ds, v, b⟩ := F.binds0 (ps := [a, k]) 1 (by simp) rfl h1
  exact ⟨ds, v, b⟩
section
variable {X : Cx} {K : PySem.W.Frag} {H : Hp} {Q : VK} {i j : Int} {σ : L2.St} {a p : Addr} {x y v : V} {xs ys : List V} {ta tb te : TE} {t u : TT} {D : Ends} {A B : TS} {tr tk : TA} {g : TG} {sp : Sp} {E : XK}
theorem l_callN {n m : Nat} {gV : List V → List V → List V} (q : tr σ H fun vs H1 => tk σ H1 fun zs H2 => vs.length = n ∧ zs.length = m ∧ sp (gV vs zs) H2 Q E) : tCallN n m sp gV E tr tk σ H Q := q
theorem l_callD {dvs : List V} (q : tr σ H fun vs H1 => sp (vs ++ dvs) H1 Q E) : tCall sp dvs E tr σ H Q := q
theorem l_andV (q : ta σ H fun x H1 => ∃ c, x = .bl c ∧ if c = true then tb σ H1 Q else Q (.bl false) H1) : tAndV ta tb σ H Q := q
theorem l_orV (q : ta σ H fun x H1 => ∃ c, x = .bl c ∧ if c = true then Q (.bl true) H1 else tb σ H1 Q) : tOrV ta tb σ H Q := q
theorem l_notV (q : ta σ H fun x H1 => ∃ c, x = .bl c ∧ Q (.bl (!c)) H1) : tNotV ta σ H Q := q
theorem l_while (W : Nat → L2.St → Hp → Prop) (m : Nat) (w0 : W m σ H) (hs : ∀ m σ H, W m σ H → t σ H fun b H1 => if b = true then ∃ N : L2.St → Hp → Prop, (∀ σ' H', N σ' H' → ∃ m', m' < m ∧ W m' σ' H') ∧ A { D with nx := N, ct := N, bk := D.nx } σ H1 else D.nx σ H1) :
    tWhile t A D σ H := ⟨W, ⟨m, w0⟩, hs⟩
theorem l_jsN {acc : Str} {R : Str → Hp → Prop} (q : R acc H) : tJs [] acc σ H R := q
theorem l_jsC {acc : Str} {ts : List TE} {R : Str → Hp → Prop} (q : te σ H fun x H1 => ∃ y : Str, x = .str y ∧ (acc ++ y).length ≤ sizeLine ∧ tJs ts (acc ++ y) σ H1 R) : tJs (te :: ts) acc σ H R := q
theorem l_fmtS (q : te σ H fun x H1 => (∃ y : Str, x = .str y ∧ y.length ≤ sizeLine ∧ Q (.str y) H1) ∨ ∃ i : Int, x = .int i ∧ i.natAbs.log2 < 1920 ∧ Q (.str (toString i)) H1) : tFmt te σ H Q := q
theorem l_rng2 {R : It → Hp → Prop} (q : tr σ H fun vs H1 => ∃ i j : Int, vs = [.int i, .int j] ∧ (-(2 ^ 62) ≤ i ∧ i < 2 ^ 62 ∧ -(2 ^ 62) ≤ j ∧ j < 2 ^ 62) ∧ R (Itr i (j - i).toNat) H1) : iRng2 tr σ H R := q
/-- != of two tuples of texts -/
theorem eqv_texts : ∀ l r : List Str, PyData.eqvAll (l.map PyData.str) (r.map PyData.str) = decide (l = r)
  | [], [] => by simp [PyData.eqvAll]
  | [], _ :: _ => by simp [PyData.eqvAll]
  | _ :: _, [] => by simp [PyData.eqvAll]
  | x :: l, y :: r => by
    rw [List.map_cons, List.map_cons, PyData.eqvAll, PyData.eqv, eqv_texts l r]
    by_cases e : x = y <;> simp [e]
theorem shaped_texts {l : List Str} (h : ∀ z ∈ l, PyData.strOk z = true) : SeqAt.shaped (.tuple (l.map PyData.str)) = true := by
  have cl : ∀ l : List Str, (∀ z ∈ l, PyData.strOk z = true) → PyData.canLayAll0 (l.map PyData.str) = true ∧ PyData.depthAll (l.map PyData.str) = 0 := fun l => by
    induction l with
    | nil => intro _; exact ⟨rfl, rfl⟩
    | cons x r ih =>
      intro h
      obtain ⟨a, b⟩ := ih fun z m => h z (List.mem_cons_of_mem _ m)
      rw [List.map_cons]
      constructor
      · show (PyData.strOk x && PyData.canLayAll0 (r.map PyData.str)) = true
        rw [a, h x List.mem_cons_self]; rfl
      · show max (PyData.depth (.str x)) (PyData.depthAll (r.map PyData.str)) = 0
        rw [b]; rfl
  obtain ⟨a, b⟩ := cl l h
  show (PyData.canLayAll0 (l.map PyData.str) && decide (PyData.depthAll (l.map PyData.str) + 1 ≤ 64)) = true
  rw [a, b]; rfl
theorem dp_texts (l : List Str) : DpAll K H (l.map V.str) (l.map PyData.str) := by
  induction l with
  | nil => exact .nil
  | cons x r ih => exact .cons (.str x) ih
theorem l_neT {q1 q2 : Addr} {zs us : List Str} (h1 : SqT K H q1 (zs.map V.str)) (h2 : SqT K H q2 (us.map V.str)) (o1 : ∀ z ∈ zs, PyData.strOk z = true) (o2 : ∀ z ∈ us, PyData.strOk z = true) (q : Q (.bl (!decide (zs = us))) H) : rNeD K (.ref q1) (.ref q2) H Q := by
  refine ⟨.tuple (zs.map .str), .tuple (us.map .str), .tup h1 (dp_texts zs), .tup h2 (dp_texts us), shaped_texts o1, shaped_texts o2, ?_⟩
  have e : PyData.eqv (.tuple (zs.map PyData.str)) (.tuple (us.map PyData.str)) = decide (zs = us) := eqv_texts zs us
  rw [e]; exact q
end
end Tq
namespace Tq
open PySem PySem.Spec PyProof.Rows L2
/-- one more of the first n -/
theorem take_step (z : Str) (xs : List Str) (n i : Nat) : (named z xs (i + 1)).take n =
    if nm z (i + 1) ∉ xs ∧ ((named z xs i).take n).length < n then (named z xs i).take n ++ [nm z (i + 1)] else (named z xs i).take n := by
  rw [named_succ]
  by_cases h : nm z (i + 1) ∈ xs
  · simp [h]
  · rw [if_neg h]
    by_cases l : (named z xs i).length < n
    · rw [if_pos ⟨h, by rw [List.take_of_length_le (by omega)]; exact l⟩, List.take_of_length_le (by rw [List.length_append, List.length_singleton]; omega), List.take_of_length_le (by omega)]
    · rw [if_neg (fun c => l (by have := c.2; rw [List.length_take] at this; omega)), List.take_append_of_le_length (by omega)]
theorem nm_def (z : Str) (k : Nat) : z ++ Str.ofString (toString (k : Int)) = nm z k := rfl
theorem log_small {i : Int} (h0 : 0 ≤ i) (h : i < 1000000) : i.natAbs.log2 < 1920 := by
  have : i.natAbs < 2 ^ 1920 := Nat.lt_of_lt_of_le (show i.natAbs < 2 ^ 20 by omega) (Nat.pow_le_pow_right (by decide) (by decide))
  by_cases e : i.natAbs = 0
  · rw [e]; decide
  · exact (Nat.log2_lt e).mpr this
end Tq
namespace Tq
open L2
theorem _root_.L2.Same.seqT {K : PySem.W.Frag} {H H' : Hp} {a : PySem.Addr} {xs : List V} (e : Same H H') (h : SqT K H a xs) : SqT K H' a xs := by
  rcases h with (h | ⟨o, h⟩) | h
  · exact .inl (.inl (e _ _ h))
  · exact .inl (.inr ⟨o, e _ _ h⟩)
  · exact .inr h
theorem But.seqT {K : PySem.W.Frag} {H H' : Hp} {t a : PySem.Addr} {xs : List V} (e : But t H H') (n : a ≠ t) (h : SqT K H a xs) : SqT K H' a xs := by
  rcases h with (h | ⟨o, h⟩) | h
  · exact .inl (.inl (e _ _ n h))
  · exact .inl (.inr ⟨o, e _ _ n h⟩)
  · exact .inr h
end Tq
namespace Tq
open L2
/-- what holds between two statements -/
theorem l_cut {A B : TS} {D : Ends} {σ : L2.St} {H : Hp} (I : L2.St → Hp → Prop) (hA : ∀ N : L2.St → Hp → Prop, (∀ σ' H', I σ' H' → N σ' H') → A { D with nx := N } σ H) (hB : ∀ σ' H', I σ' H' → B D σ' H') : tSeq A B D σ H := hA (B D) hB
end Tq
namespace Tq
open PySem PySem.Spec PyProof.Rows L2
/-! ### data of tuples -/
mutual
def Pu : PyData → Bool
  | .none => true
  | .bool _ => true
  | .int _ => true
  | .str _ => true
  | .tuple ds => PuAll ds
  | .list _ => false
  | .dict _ => false
def PuAll : List PyData → Bool
  | [] => true
  | d :: ds => Pu d && PuAll ds
end
theorem puAll_iff : ∀ {ds : List PyData}, PuAll ds = true ↔ ∀ d ∈ ds, Pu d = true
  | [] => by simp [PuAll]
  | d :: ds => by
    show (Pu d && PuAll ds) = true ↔ _
    rw [Bool.and_eq_true, puAll_iff]
    simp
/-- tuples stand as they stood -/
def TK (H H' : Hp) : Prop := ∀ b xs, Rd H b (.tup xs) → Rd H' b (.tup xs)
section
variable {K : PySem.W.Frag} {H H' H1 : Hp} {t p : Addr} {v x : V} {xs : List V} {d : PyData} {ds : List PyData} {o : HO}
theorem TK.refl : TK H H := fun _ _ h => h
theorem TK.trans (a : TK H H1) (b : TK H1 H') : TK H H' := fun c xs h => b c xs (a c xs h)
theorem TK.of_same (s : Same H H') : TK H H' := fun b xs h => by
  rcases h with h | ⟨o, h⟩
  · exact .inl (s _ _ h)
  · exact .inr ⟨o, s _ _ h⟩
theorem TK.of_but (s : But t H H') (h : H t = some (.lst xs)) : TK H H' := fun b ys r => by
  have n : b ≠ t := by
    rintro rfl
    rcases r with r | ⟨o, r⟩ <;> rw [h] at r <;> cases r
  rcases r with r | ⟨o, r⟩
  · exact .inl (s _ _ n r)
  · exact .inr ⟨o, s _ _ n r⟩
theorem TK.but (s : But t H H') (T : ∃ a, Tape H t a) : TK H H' := by
  obtain ⟨a, ns, q, c, e, _, _, _, _, _, h⟩ := T
  exact TK.of_but s h
theorem TK.put (h : H p = some (.lst xs)) : TK H (L2.upd H p o) := TK.of_but (But.upd (But.refl p H)) h
theorem TK.new (h : H p = none) : TK H (L2.upd H p o) := TK.of_same (new_same h)
theorem TK.putD {kvs : List (Key × V)} (h : H p = some (.dK kvs)) : TK H (L2.upd H p o) := fun b ys r => by
  have n : b ≠ p := by
    rintro rfl
    rcases r with r | ⟨o, r⟩ <;> rw [h] at r <;> cases r
  rcases r with r | ⟨o, r⟩
  · exact .inl (by rw [upd_ne n]; exact r)
  · exact .inr ⟨o, by rw [upd_ne n]; exact r⟩
theorem TK.sq (k : TK H H') (h : SqT K H p xs) : SqT K H' p xs := by
  rcases h with h | h
  · exact .inl (k _ _ h)
  · exact .inr h
end
end Tq
namespace L2
open PySem PySem.Spec PyProof.Rows Tq
section
variable {K : PySem.W.Frag} {H H' H1 : Hp} {t p : Addr} {v x : V} {xs : List V} {d : PyData} {ds : List PyData} {o : HO}
mutual
theorem Dp.keep (k : TK H H') : ∀ (d : PyData) (v : V), Pu d = true → Dp K H v d → Dp K H' v d
  | .none, _, _, .non => .non
  | .bool _, _, _, .bl b => .bl b
  | .int _, _, _, .int i => .int i
  | .str _, _, _, .str z => .str z
  | .tuple ds, _, p, .tup s a => .tup (k.sq s) (DpAll.keep k ds _ p a)
theorem DpAll.keep (k : TK H H') : ∀ (ds : List PyData) (vs : List V), PuAll ds = true → DpAll K H vs ds → DpAll K H' vs ds
  | [], _, _, .nil => .nil
  | d :: ds, _, p, .cons a b => by
    have q : (Pu d && PuAll ds) = true := p
    rw [Bool.and_eq_true] at q
    exact .cons (Dp.keep k d _ q.1 a) (DpAll.keep k ds _ q.2 b)
end
theorem _root_.Tq.dp_tup (h : Dp K H v (.tuple ds)) : ∃ p xs, v = .ref p ∧ SqT K H p xs ∧ DpAll K H xs ds := by
  cases h with
  | tup s a => exact ⟨_, _, rfl, s, a⟩
theorem _root_.Tq.dp_str {z : Str} (h : Dp K H v (.str z)) : v = .str z := by cases h; rfl
theorem _root_.Tq.dp_none (h : Dp K H v .none) : v = .non := by cases h; rfl
theorem _root_.Tq.dp_int {i : Int} (h : Dp K H v (.int i)) : v = .int i := by cases h; rfl
theorem _root_.Tq.dp_bool {b : Bool} (h : Dp K H v (.bool b)) : v = .bl b := by cases h; rfl
theorem DpAll.len : ∀ {xs : List V} {ds : List PyData}, DpAll K H xs ds → xs.length = ds.length
  | _, _, .nil => rfl
  | _, _, .cons _ b => congrArg (· + 1) b.len
theorem DpAll.at : ∀ {xs : List V} {ds : List PyData} {i : Nat} {x : V}, DpAll K H xs ds → xs[i]? = some x → ∃ d, ds[i]? = some d ∧ Dp K H x d
  | _, _, 0, _, .cons a _, h => by
    simp at h; subst h
    exact ⟨_, rfl, a⟩
  | _, _, i + 1, _, .cons _ b, h => by
    obtain ⟨d, e, q⟩ := DpAll.at (i := i) b (by simpa using h)
    exact ⟨d, by simpa using e, q⟩
theorem DpAll.of : ∀ {xs : List V} {ds : List PyData} {i : Nat} {d : PyData}, DpAll K H xs ds → ds[i]? = some d → ∃ x, xs[i]? = some x ∧ Dp K H x d
  | _, _, 0, _, .cons a _, h => by
    simp at h; subst h
    exact ⟨_, rfl, a⟩
  | _, _, i + 1, _, .cons _ b, h => by
    obtain ⟨d, e, q⟩ := DpAll.of (i := i) b (by simpa using h)
    exact ⟨d, by simpa using e, q⟩
theorem DpAll.snoc : ∀ {xs : List V} {ds : List PyData}, DpAll K H xs ds → Dp K H x d → DpAll K H (xs ++ [x]) (ds ++ [d])
  | _, _, .nil, h => .cons h .nil
  | _, _, .cons a b, h => .cons a (b.snoc h)
theorem DpAll.strs : ∀ {xs : List V} {zs : List Str}, DpAll K H xs (zs.map PyData.str) → xs = zs.map V.str
  | _, [], .nil => rfl
  | _, z :: zs, .cons a b => by rw [dp_str a, DpAll.strs b]; rfl
end
end L2
namespace Tq
open PySem PySem.Spec PyProof.Rows L2
/-! ### cells, rows, records [21] -/
inductive Cel where
  | null
  | txt (z : Str)
  | val (n : Str)
def Cel.d : Cel → PyData
  | .null => .none
  | .txt z => .str z
  | .val n => .tuple [.str n]
abbrev CRow := Option (List Cel)
def rowD : CRow → PyData
  | none => .none
  | some cs => .tuple (cs.map Cel.d)
def recD (R : List CRow) : PyData := .tuple (R.map rowD)
theorem cel_pu : ∀ c : Cel, Pu c.d = true
  | .null => rfl
  | .txt _ => rfl
  | .val _ => rfl
theorem cels_pu (cs : List Cel) : PuAll (cs.map Cel.d) = true := puAll_iff.mpr fun d m => by
  obtain ⟨c, _, rfl⟩ := List.mem_map.mp m
  exact cel_pu c
theorem row_pu : ∀ r : CRow, Pu (rowD r) = true
  | none => rfl
  | some cs => cels_pu cs
theorem rows_pu (R : List CRow) : PuAll (R.map rowD) = true := puAll_iff.mpr fun d m => by
  obtain ⟨c, _, rfl⟩ := List.mem_map.mp m
  exact row_pu c
theorem rec_pu (R : List CRow) : Pu (recD R) = true := rows_pu R
def Cel.txt? : Cel → Option Str
  | .txt z => some z
  | _ => none
def rowT (r : CRow) : List Str := (r.getD []).filterMap Cel.txt?
def recT (R : List CRow) : List Str := R.flatMap rowT
/-- how many cells -/
def celN (R : List CRow) : Nat := (R.map fun r => (r.getD []).length).sum
theorem recT_len (R : List CRow) : (recT R).length ≤ celN R := by
  unfold recT celN
  induction R with
  | nil => simp
  | cons r R ih =>
    rw [List.flatMap_cons, List.length_append, List.map_cons, List.sum_cons]
    have : (rowT r).length ≤ (r.getD []).length := List.length_filterMap_le ..
    omega
/-! ### the free texts -/
def fstep (fx : List Str) (acc : List Str) : Cel → List Str
  | .txt z => if z ∈ fx then acc else step1 acc z
  | _ => acc
def rowF (fx : List Str) (acc : List Str) (r : CRow) : List Str := (r.getD []).foldl (fstep fx) acc
def freeT (fx : List Str) (R : List CRow) : List Str := R.foldl (rowF fx) []
def tstep (fx : List Str) (acc : List Str) (z : Str) : List Str := if z ∈ fx then acc else step1 acc z
theorem row_fold (fx : List Str) : ∀ (cs : List Cel) (acc : List Str), cs.foldl (fstep fx) acc = (cs.filterMap Cel.txt?).foldl (tstep fx) acc
  | [], _ => rfl
  | .null :: r, acc => row_fold fx r acc
  | .val _ :: r, acc => row_fold fx r acc
  | .txt z :: r, acc => row_fold fx r (tstep fx acc z)
theorem freeT_eq (fx : List Str) (R : List CRow) : freeT fx R = (recT R).foldl (tstep fx) [] := by
  unfold freeT recT
  suffices h : ∀ (R : List CRow) (acc : List Str), R.foldl (rowF fx) acc = (R.flatMap rowT).foldl (tstep fx) acc from h R []
  intro R
  induction R with
  | nil => intro acc; rfl
  | cons r R ih =>
    intro acc
    rw [List.foldl_cons, ih, List.flatMap_cons, List.foldl_append]
    have e : rowF fx acc r = (rowT r).foldl (tstep fx) acc := row_fold fx _ acc
    rw [e]
theorem tstep_mem {fx acc : List Str} {z y : Str} : y ∈ tstep fx acc z ↔ y ∈ acc ∨ (y = z ∧ z ∉ fx) := by
  unfold tstep
  by_cases h : z ∈ fx
  · simp [h]
  · simp [h, step1_mem]
theorem tfold_mem {fx : List Str} : ∀ (zs acc : List Str) (y : Str), y ∈ zs.foldl (tstep fx) acc ↔ y ∈ acc ∨ (y ∈ zs ∧ y ∉ fx)
  | [], acc, y => by simp
  | z :: zs, acc, y => by
    rw [List.foldl_cons, tfold_mem zs, tstep_mem, List.mem_cons]
    constructor
    · rintro ((h | ⟨rfl, h⟩) | ⟨h, h2⟩)
      · exact .inl h
      · exact .inr ⟨.inl rfl, h⟩
      · exact .inr ⟨.inr h, h2⟩
    · rintro (h | ⟨h | h, h2⟩)
      · exact .inl (.inl h)
      · exact .inl (.inr ⟨h, h ▸ h2⟩)
      · exact .inr ⟨h, h2⟩
theorem tstep_nd {fx acc : List Str} {z : Str} (h : acc.Nodup) : (tstep fx acc z).Nodup := by
  unfold tstep
  split
  · exact h
  · exact step1_nd z h
theorem tfold_nd {fx : List Str} : ∀ (zs acc : List Str), acc.Nodup → (zs.foldl (tstep fx) acc).Nodup
  | [], _, h => h
  | _ :: zs, _, h => tfold_nd zs _ (tstep_nd h)
theorem tstep_len (fx acc : List Str) (z : Str) : (tstep fx acc z).length ≤ acc.length + 1 := by
  unfold tstep
  split
  · omega
  · exact step1_len acc z
theorem tfold_len {fx : List Str} : ∀ (zs acc : List Str), (zs.foldl (tstep fx) acc).length ≤ acc.length + zs.length
  | [], _ => by simp
  | z :: zs, acc => by
    have a := tfold_len (fx := fx) zs (tstep fx acc z)
    have b := tstep_len fx acc z
    rw [List.foldl_cons, List.length_cons]
    omega
theorem freeT_mem {fx : List Str} {R : List CRow} {y : Str} : y ∈ freeT fx R ↔ y ∈ recT R ∧ y ∉ fx := by
  rw [freeT_eq, tfold_mem]; simp
theorem freeT_nd (fx : List Str) (R : List CRow) : (freeT fx R).Nodup := by
  rw [freeT_eq]; exact tfold_nd _ _ List.nodup_nil
theorem freeT_len (fx : List Str) (R : List CRow) : (freeT fx R).length ≤ celN R := by
  rw [freeT_eq]
  have := tfold_len (fx := fx) (recT R) []
  have := recT_len R
  simp at *
  omega
theorem fstep_len (fx acc : List Str) (c : Cel) : (fstep fx acc c).length ≤ acc.length + 1 := by
  cases c with
  | txt z => exact tstep_len fx acc z
  | _ => exact Nat.le_succ _
theorem ffold_len {fx : List Str} : ∀ (cs : List Cel) (acc : List Str), (cs.foldl (fstep fx) acc).length ≤ acc.length + cs.length
  | [], _ => by simp
  | z :: zs, acc => by
    have a := ffold_len (fx := fx) zs (fstep fx acc z)
    have b := fstep_len fx acc z
    rw [List.foldl_cons, List.length_cons]
    omega
end Tq
namespace Tq
theorem celN_row {R : List CRow} {i : Nat} {cs : List Cel} (h : R[i]? = some (some cs)) : celN (R.take i) + cs.length ≤ celN R := by
  obtain ⟨l, e⟩ := List.getElem?_eq_some_iff.mp h
  have s : R = R.take i ++ R[i] :: R.drop (i + 1) := by rw [List.getElem_cons_drop, List.take_append_drop]
  rw [e] at s
  have : celN R = celN (R.take i) + (cs.length + celN (R.drop (i + 1))) := by
    conv => lhs; rw [s]
    unfold celN
    rw [List.map_append, List.sum_append]
    rfl
  omega
theorem celN_take (R : List CRow) (i : Nat) : celN (R.take i) ≤ celN R := by
  conv => rhs; rw [← List.take_append_drop i R]
  unfold celN
  rw [List.map_append, List.sum_append]
  omega
end Tq

namespace Tq
open PySem
def Cel.isT : Cel → Bool
  | .txt _ => true
  | _ => false
def Cel.ts : Cel → List Str
  | .txt z => [z]
  | _ => []
theorem take_ts {cs : List Cel} {j : Nat} {c : Cel} (h : cs[j]? = some c) : (cs.take (j + 1)).filterMap Cel.txt? = (cs.take j).filterMap Cel.txt? ++ c.ts := by
  rw [List.take_add_one, h, List.filterMap_append]
  cases c <;> rfl
theorem take_rowT {R : List CRow} {i : Nat} {r : CRow} (h : R[i]? = some r) : recT (R.take (i + 1)) = recT (R.take i) ++ rowT r := by
  rw [List.take_add_one, h]
  unfold recT
  rw [List.flatMap_append]
  simp
end Tq
namespace Tq
open PySem PySem.Spec PyProof.Rows L2
section
variable {prog : Program} {w : World} {A : Around} {E : Value → Shared → Prop} {s : Shared}
/-- tuple.__new__ of what can be gathered -/
theorem new_tup_of {T : String} {r d : Addr} {n : Nat} {Pv : Nat → Value → Prop} {OK : Heap → Prop} (S : PySem.W.KdlSrc prog w T r d n Pv OK) {Q₁ : Value → Shared → Prop} (calm : A.handled = none) (ok : OK s.heap) (few : n ≤ sizeLine)
    (k : ∀ (h' : Heap) (tk : Nat) (acc : Array Value), (∀ b o, s.heap.get? b = some o → h'.get? b = some o) → ItemsOf Pv acc n → Q₁ (.ref h'.objs.size) { s with heap := h'.push { cls := .type "tuple", data := .seq acc }, toks := tk }) :
    codeAny (model prog w) A (.call (.builtin "tuple.__new__") ⟨[.type "tuple", .ref r], []⟩) (wants Q₁ E) s := by
  refine codeAny_of_tree ?_
  show wpAny _ A.in1 (checkBuiltinCall "tuple.__new__" ⟨[.type "tuple", .ref r], []⟩ >>= fun _ => again (.builtin "tuple.__new__" ⟨[.type "tuple", .ref r], []⟩)) _ _ s
  refine wpAny_bind (wpAny_of_eq (F.newCall_tuple_1 _) (wpAny_pure ⟨plainId_quiet F.plain_tuple_new _, codeAny_builtin F.entry_tuple_new ?_⟩))
  rw [Around.under_plainId F.plain_tuple_new _]
  have q1 := sub_tuple_self; have q2 := init_tuple_lookup; have q3 := madeHere_tuple
  have ty : s.TypeIs (.ref r) T := S.type s ok
  have calm1 : A.in1.handled = none := calm
  wp_walk using wpAny_typeOf ty
  rw [if_neg (by rw [S.notTuple]; decide)]
  refine wpAny_bind (PySem.W.kdu_collect (A := A.in1) S calm1 ok few fun h' tk acc kp it => ?_)
  show wpAny _ _ (Builtin.Tuple.tupleExact acc.toList.toArray >>= fun v => ret v) _ _ _
  unfold Builtin.Tuple.tupleExact
  have e : acc.toList.toArray = acc := by simp
  rw [e]
  refine wpAny_bind (wpAny_newObj_type ?_ (by show acc.size ≤ sizeLine; rw [it.1]; exact few))
  exact wpAny_pure (k h' tk acc kp it)
theorem tup_of {T : String} {r d : Addr} {n : Nat} {Pv : Nat → Value → Prop} {OK : Heap → Prop} (S : PySem.W.KdlSrc prog w T r d n Pv OK) {Q : Value → Shared → Prop} (calm : A.handled = none) (ok : OK s.heap) (few : n ≤ sizeLine)
    (k : ∀ (h' : Heap) (tk : Nat) (acc : Array Value), (∀ b o, s.heap.get? b = some o → h'.get? b = some o) → ItemsOf Pv acc n → Q (.ref h'.objs.size) { s with heap := h'.push { cls := .type "tuple", data := .seq acc }, toks := tk }) :
    wpAny (model prog w) A (call (.type "tuple") [.ref r]) Q E s := by
  refine callType_codes (Q₁ := fun o z => z.TypeIs o "tuple" ∧ Q o z) F.called_tuple (F.typeCall_tuple_1 _) F.entry_object_init
    (new_tup_of (A := A.in1) S calm ok few fun h' tk acc kp it => ⟨⟨_, Heap.get?_push_size _ rfl, rfl⟩, k h' tk acc kp it⟩) fun o z hz => ?_
  exact ⟨hz.1, F.args_object_init_2 o _, object_init_meets F.called_tuple.init.lookup F.called_tuple.made (by decide) prog w A.in1 _ z ⟨hz.1, rfl, hz.2⟩⟩
end
/-- tuple(d): the keys -/
def rTupD : List V → Hp → VK → Prop := fun xs H Q => ∃ p kvs, xs = [.ref p] ∧ H p = some (.dK kvs) ∧ ∀ q, H q = none → Q (.ref q) (upd H q (.tup (kvs.map fun kv => kV kv.1)))
theorem c_tupD {X : Cx} (hc : X.calm = true) : CallR X (.type "tuple") rTupD := by
  intro pins s σ H xs us Q I r h
  obtain ⟨p, kvs, rfl, hk, q⟩ := h
  rw [Vals.ref1 r]
  obtain ⟨z, lo, vs, rk, hd⟩ := (show ObjOk X.prog X.w H s.heap p (.dK kvs) from I.hok p _ hk)
  obtain ⟨ep, hat⟩ := hd.dictAt
  have hl : kvs.length = vs.length := Paired.length rk
  refine tup_of (PySem.W.kdl_dict (knd := mixKind X.prog X.w) (kvs := vs) (ep := ep) lo) (I.ok.hd hc) hat (by rw [← hl]; exact z) fun h' tk acc kp it => ?_
  have I1 : Inv X pins σ H { s with heap := h', toks := tk } := I.kept kp
  have ml : (kvs.map fun kv => kV kv.1).length = kvs.length := List.length_map ..
  have vo : Vals (kvs.map fun kv => kV kv.1) acc.toList := by
    have al : acc.toList.length = vs.length := by simpa using it.1
    refine vals_of_at (by rw [ml, al, hl]) fun j x w h1 h2 => ?_
    obtain ⟨k, y, hky, hi⟩ := it.2 j w (by rw [← Array.getElem?_toList]; exact h2)
    have e1 : (kvs.map (·.1))[j]? = some k := by
      rw [KV.keys rk, List.getElem?_map, hky]; rfl
    have e3 : (kvs.map fun kv => kV kv.1) = (kvs.map (·.1)).map kV := by rw [List.map_map]; rfl
    rw [e3, List.getElem?_map, e1] at h1
    cases h1
    exact keyIs_rel hi
  refine ⟨.ref h'.objs.size, upd H h'.objs.size (.tup (kvs.map fun kv => kV kv.1)), I1.laid (t' := tk) (fun b u e => Heap.get?_push_of_some _ e) (Nat.le_refl _) ⟨by rw [ml]; exact z, acc.toList, vo, ?_⟩, rfl, q _ (I1.hok.fresh (Nat.le_refl _))⟩
  have := IsTup.new h' acc
  simpa using this
/-- texts as keys -/
def keysT (ks : List Str) : List (Key × V) := ks.map fun z => (Sum.inr z, V.bl true)
theorem keysT_put (ks : List Str) (z : Str) : putK (keysT ks) (Sum.inr z) (.bl true) = keysT (step1 ks z) := by
  unfold putK keysT step1
  have e : ((ks.map fun z => ((Sum.inr z : Key), V.bl true)).any fun kv => decide (kv.1 = Sum.inr z)) = decide (z ∈ ks) := by
    rw [List.any_map]
    by_cases m : z ∈ ks
    · rw [decide_eq_true m]
      exact List.any_eq_true.mpr ⟨z, m, by simp⟩
    · rw [decide_eq_false m]
      refine List.any_eq_false.mpr fun y hy c => m ?_
      have : y = z := by simpa using c
      exact this ▸ hy
  rw [e]
  by_cases m : z ∈ ks
  · rw [if_pos (decide_eq_true m), if_pos m, List.map_map]
    refine List.map_congr_left fun y _ => ?_
    simp only [Function.comp]
    by_cases e : y = z <;> simp [e]
  · rw [if_neg (by simp [m]), if_neg m, List.map_append]; rfl
theorem keysT_keys (ks : List Str) : ((keysT ks).map fun kv => kV kv.1) = ks.map V.str := by
  unfold keysT
  rw [List.map_map]; rfl
section
variable {X : Cx} {K : PySem.W.Frag} {H : Hp} {Q : VK} {i j : Int} {σ : L2.St} {a p : Addr} {x y v : V} {xs ys : List V} {ta tb te : TE}
theorem l_tupD {kvs : List (Key × V)} (h : H p = some (.dK kvs)) (q : ∀ r, H r = none → Q (.ref r) (upd H r (.tup (kvs.map fun kv => kV kv.1)))) : rTupD [.ref p] H Q := ⟨p, kvs, rfl, h, q⟩
theorem l_setD {ks : List Str} {z : Str} {R : Hp → Prop} (h : H p = some (.dK (keysT ks))) (few : ks.length < sizeLine) (q : R (upd H p (.dK (keysT (step1 ks z))))) : rSetD (.ref p) (.str z) (.bl true) H R := by
  refine ⟨p, _, rfl, DPut.k (k := Sum.inr z) h (by unfold keysT; rw [List.length_map]; exact few), ?_⟩
  rw [keysT_put]
  exact q
theorem l_orT (q : ta σ H fun x H1 => ∃ k, TruV K x H1 k ∧ if k = true then Q x H1 else tb σ H1 Q) : tOrT K ta tb σ H Q := q
theorem l_dnew (q : ∀ p, H p = none → Q (.ref p) (upd H p (.dK []))) : tDNewK σ H Q := q
end
section
variable {X : Cx} {K : PySem.W.Frag} {a b : Expr} {rest : List Expr} {ta tb : TE} {pos : Pos}
theorem k_orT (h : X.K = K) (ha : PE X a ta) (hb : PE X (.BoolOp .Or (b :: rest) pos) tb) : PE X (.BoolOp .Or (a :: b :: rest) pos) (tOrT K ta tb) := h ▸ pe_orT ha hb
end
end Tq
namespace Tq
open PySem PySem.Spec PyProof.Rows L2
/-! ### a list or tuple that is read -/
def Sq (K : PySem.W.Frag) (H : Hp) (p : Addr) (xs : List V) : Prop := SqL K H p xs ∨ SqT K H p xs
section
variable {X : Cx} {K : PySem.W.Frag} {H H' : Hp} {Q : VK} {t p : Addr} {x v : V} {xs ys : List V} {σ : L2.St} {ta tb : TE}
theorem Sq.but (h : Sq K H p xs) (b : But t H H') (n : p ≠ t) : Sq K H' p xs := by
  rcases h with h | h
  · exact .inl (b.seq n h)
  · exact .inr (b.seqT n h)
theorem Sq.same (h : Sq K H p xs) (b : Same H H') : Sq K H' p xs := by
  rcases h with h | h
  · exact .inl (b.seq h)
  · exact .inr (b.seqT h)
theorem l_lenX (h : Sq K H p ys) (q : Q (.int ys.length) H) : rLenQ K [.ref p] H Q := ⟨p, ys, rfl, h, q⟩
def rNotN' : R2 := fun x y H Q => y = .non ∧ Q (.bl (!decide (x = .non))) H
def rIsN' : R2 := fun x y H Q => y = .non ∧ Q (.bl (decide (x = .non))) H
theorem o_isN : OpR X (compareOp .Is) rIsN' := op_isN
theorem o_notN : OpR X (compareOp .IsNot) rNotN' := op_notN
theorem l_isN (q : Q (.bl (decide (x = .non))) H) : rIsN' x .non H Q := ⟨rfl, q⟩
theorem l_notN (q : Q (.bl (!decide (x = .non))) H) : rNotN' x .non H Q := ⟨rfl, q⟩
theorem l_cat {l b : Addr} {zs : List V} (h1 : H l = some (.lst xs)) (h2 : H b = some (.lst zs)) (n : xs.length + zs.length ≤ sizeLine) (q : ∀ r, H r = none → Q (.ref r) (upd H r (.lst (xs ++ zs)))) : rCat (.ref l) (.ref b) H Q := ⟨l, b, xs, zs, rfl, rfl, h1, h2, n, q⟩
/-- isinstance(cell, str) -/
theorem l_isCel {c : Cel} (h : Dp K H v c.d) (q : Q (.bl c.isT) H) : rIsi K [v, .ty "str"] H Q := by
  cases c with
  | null => rw [dp_none h]; exact l_isNS q
  | txt z => rw [dp_str h]; exact l_isSS q
  | val n =>
    obtain ⟨p, xs, rfl, s, _⟩ := dp_tup h
    exact l_isTS s q
/-- distinct texts in two lists -/
theorem few_names {ts tk : List Str} {z : Str} {n : Nat} (h : ∀ i, i + 1 < n → nm z i ∈ ts ++ tk) : n ≤ ts.length + tk.length + 1 := by
  have nd : ((List.range (n - 1)).map (nm z)).Nodup := List.Pairwise.map _ (fun a b (h : a ≠ b) e => h (nm_inj e)) List.nodup_range
  have sub : (List.range (n - 1)).map (nm z) ⊆ ts ++ tk := by
    intro y hy
    obtain ⟨i, hi, rfl⟩ := List.mem_map.mp hy
    exact h i (by have := List.mem_range.mp hi; omega)
  have l := List.Nodup.length_le_of_subset nd sub
  rw [List.length_map, List.length_range, List.length_append] at l
  omega
end
end Tq
namespace Tq
open PySem PySem.Spec PyProof.Rows L2
theorem Sq.but0 {K : PySem.W.Frag} {H H' : Hp} {p d : Addr} {xs : List V} (h : Sq K H p xs) (b : But d H H') (n : H d = none) : Sq K H' p xs := by
  have ne : ∀ {o : HO}, H p = some o → p ≠ d := fun e => ne_of_none e n
  rcases h with ((h | ⟨o, h⟩) | h) | ((h | ⟨o, h⟩) | h)
  · exact .inl (.inl (.inl (b _ _ (ne h) h)))
  · exact .inl (.inl (.inr ⟨o, b _ _ (ne h) h⟩))
  · exact .inl (.inr h)
  · exact .inr (.inl (.inl (b _ _ (ne h) h)))
  · exact .inr (.inl (.inr ⟨o, b _ _ (ne h) h⟩))
  · exact .inr (.inr h)
end Tq
namespace Tq
open PySem PySem.Spec PyProof.Rows L2
theorem But.free {t p : Addr} {H H' : Hp} (b : But t H H') (n : H' p = none) (ne : p ≠ t) : H p = none := by
  cases e : H p with
  | none => rfl
  | some o =>
    rw [b p o ne e] at n
    cases n
theorem sum_le {ks : List Int} {c : Int} (h : ∀ k ∈ ks, k ≤ c) : ks.sum ≤ c * ks.length := by
  induction ks with
  | nil => simp
  | cons k r ih =>
    have a := h k List.mem_cons_self
    have b := ih fun x m => h x (List.mem_cons_of_mem _ m)
    rw [List.sum_cons, List.length_cons, Int.natCast_add, Int.mul_add]
    omega
theorem take_sum {ks : List Int} {i : Nat} {k : Int} (h : ks[i]? = some k) : (ks.take (i + 1)).sum = (ks.take i).sum + k := by
  rw [List.take_add_one, h]
  simp
theorem celN_snoc (R : List CRow) (r : CRow) : celN (R ++ [r]) = celN R + (r.getD []).length := by
  unfold celN
  simp
theorem recT_snoc (R : List CRow) (r : CRow) : recT (R ++ [r]) = recT R ++ rowT r := by
  unfold recT
  simp
end Tq
namespace Tq
open PySem PySem.Spec PyProof.Rows L2
theorem l_nx {B : L2.St → Hp → Prop} {D : Ends} {σ : L2.St} {H : Hp} (q : B σ H) : ({ D with nx := B } : Ends).nx σ H := q
end Tq
namespace Tq
open PySem PySem.Spec PyProof.Rows L2
/-! ### a key of another kind -/
section
variable {prog : Program} {w : World} {A : Around} {E : Value → Shared → Prop} {s : Shared}
theorem key_byValue {k : Key} {v : Value} (h : keyIs k v = true) : carriedByValue v = true := by
  rcases keyIs_shape h with ⟨_, _, _, rfl⟩ | ⟨_, _, _, rfl⟩ <;> rfl
theorem key_noRef {k : Key} {v : Value} {a : Addr} (h : keyIs k v = true) : (v == Value.ref a) = false := by
  rcases keyIs_shape h with ⟨_, _, _, rfl⟩ | ⟨_, _, _, rfl⟩ <;> rfl
theorem isTuple_of {ks : List Key} {a : Addr} (h : (tupleKind (mixKind prog w)).is s.heap ks a) : ∃ items, s.heap.IsTuple a items := by
  obtain ⟨o, items, n, h1, h2, h3, _⟩ := h
  exact ⟨items, o, h1, h2, n, h3⟩
theorem find_miss {d a : Addr} {ob : Obj} {es : Array DictEntry} {ep : Nat} {ks : List Key} {n : Int} {Q : Option Nat → Shared → Prop} (hu : A.units < cLine)
    (hkey : (tupleKind (mixKind prog w)).is s.heap ks a) (ho : s.heap.get? d = some ob) (hd : ob.data = .dict es ep) (hk : ∀ e ∈ es, ∃ k, keyIs k e.key = true) (h : Q none s) :
    wpAny (model prog w) A (dictFind d (.ref a) n) Q E s := by
  have hst : ∀ v ∈ (placesWithHash es.size (fun i => es[i]?.map (·.hash)) n).filterMap (fun i => es[i]?.map (·.key)), ∃ k, keyIs k v = true := by
    intro v hv
    obtain ⟨i, _, hi⟩ := List.mem_filterMap.mp hv
    cases hei : es[i]? with
    | none => rw [hei] at hi; cases hi
    | some e =>
      rw [hei] at hi
      obtain rfl : e.key = v := by simpa using hi
      exact hk e (Array.mem_of_getElem? hei)
  have hany : ¬ (es.any fun e => e.key == Value.ref a && e.hash != n) = true := by
    rw [← Array.any_toList, List.any_eq_true]
    rintro ⟨e, hin, hc⟩
    obtain ⟨k, h1⟩ := hk e (Array.mem_toList_iff.mp hin)
    rw [key_noRef h1] at hc
    cases hc
  have hone : ¬ (((placesWithHash es.size (fun i => es[i]?.map (·.hash)) n).filterMap (fun i => es[i]?.map (·.key))) == [Value.ref a]) = true := by
    intro e
    have e2 := eq_of_beq e
    obtain ⟨k, h1⟩ := hst (.ref a) (by rw [e2]; exact List.mem_singleton.mpr rfl)
    have := key_noRef (a := a) h1
    rw [beq_self_eq_true] at this
    cases this
  have tell : ∀ {Q : Bool → Shared → Prop}, Q false s → wpAny (model prog w) A (tableMayTell (.ref a) ((placesWithHash es.size (fun i => es[i]?.map (·.hash)) n).filterMap (fun i => es[i]?.map (·.key)))) Q E s := by
    intro Q h
    unfold tableMayTell
    split
    · exact wpAny_pure h
    · refine wpAny_bind ((tupleKind (mixKind prog w)).quiet hkey ?_)
      simp only [Bool.not_true, Bool.false_eq_true, if_false]
      refine wpAny_bind ?_
      refine wpAny_forIn_list _ (fun rest r s' => s' = s ∧ r = (none, ()) ∧ ∀ v ∈ rest, carriedByValue v = true) _ ?_ ?_ _ _ ⟨rfl, rfl, fun v hv => by
        obtain ⟨k, h1⟩ := hst v hv
        exact key_byValue h1⟩
      · rintro x rest r s' ⟨rfl, rfl, hr⟩
        rw [eqIsQuiet_byValue _ (hr x List.mem_cons_self)]
        refine wpAny_bind (wpAny_pure ?_)
        simp only [Bool.not_true, Bool.false_eq_true, if_false]
        exact wpAny_pure ⟨rfl, rfl, fun v hv => hr v (List.mem_cons_of_mem _ hv)⟩
      · rintro r s' ⟨rfl, rfl, _⟩
        exact wpAny_pure h
  obtain ⟨items, ht⟩ := isTuple_of hkey
  unfold dictFind
  try with_reducible refine wpAny_holding ?_
  refine wpAny_bind (wpAny_dictEntries ho hd ?_)
  dsimp only
  rw [if_neg (show ¬ ((Value.ref a :: (placesWithHash es.size (fun i => es[i]?.map (·.hash)) n).filterMap (fun i => es[i]?.map (·.key))).all carriedByValue) = true by simp [carriedByValue])]
  rw [if_neg hany, if_neg hone]
  refine wpAny_bind (tell ?_)
  rw [if_neg (by simp)]
  refine wpAny_bind ?_
  refine wpAny_forIn_list _ (fun rest b s' => s' = s ∧ b = (none, none)) _ ?_ ?_ _ _ ⟨rfl, rfl⟩
  · rintro x rest b s' ⟨rfl, rfl⟩
    cases hex : es[x]? with
    | none => exact wpAny_pure ⟨rfl, rfl⟩
    | some e =>
      obtain ⟨k, h1⟩ := hk e (Array.mem_of_getElem? hex)
      dsimp only
      by_cases hh : (e.hash == n) = true
      · rw [if_pos hh]
        have ev : SeqAt.EqAt A s' e.key (.ref a) false := by
          rcases keyIs_shape h1 with ⟨i, t, _, e2⟩ | ⟨x, t, _, e2⟩
          · rw [e2]; exact .int_tuple i t ht hu
          · rw [e2]; exact .str_tuple x t ht hu
        refine wpAny_bind (wpAny_dictEpoch ho hd (wpAny_bind (ev _ _ _ _ (wpAny_bind (wpAny_dictEpoch ho hd ?_)))))
        show wpAny _ _ (if (ep != ep) = true then _ else _) _ E _
        rw [if_neg (by simp)]
        simp only [Bool.false_eq_true, if_false]
        refine wpAny_bind (wpAny_rule ?_)
        first | rw [if_neg (by simp)] | skip
        first
          | exact wpAny_pure ⟨rfl, rfl⟩
          | exact wpAny_bind (wpAny_pure (wpAny_pure ⟨rfl, rfl⟩))
      · rw [if_neg hh]
        exact wpAny_pure ⟨rfl, rfl⟩
  · rintro b s' ⟨rfl, rfl⟩
    exact wpAny_pure h
theorem get_miss {d a : Addr} {vs : List (Key × Value)} {ks : List Key} {Q : Option Value → Shared → Prop} (hu : A.units < cLine)
    (hkey : (tupleKind (mixKind prog w)).is s.heap ks a) (hm : s.heap.DictOf (mixKind prog w) d vs) (h : ∀ n, Q none { s with toks := s.toks + n }) :
    wpAny (model prog w) A (dictGet d (.ref a)) Q E s := by
  obtain ⟨o, es, ep, ho, _, hd, hk, _, _⟩ := hm
  unfold dictGet
  try with_reducible refine wpAny_holding ?_
  refine wpAny_bind ((tupleKind (mixKind prog w)).pyHash hu hkey (wpAny_bind (find_miss (s := { s with toks := s.toks + _ }) hu hkey ho hd (fun e he => ?_) ?_)))
  · obtain ⟨k, h1, _⟩ := hk e he
    exact ⟨k, h1⟩
  · exact wpAny_pure (h _)
theorem meets_miss {d a : Addr} (hd : (d == sysModules) = false) (dflt : Value) :
    MeetsIn prog w (Builtin.«dict.get» ⟨[.ref d, .ref a, dflt], []⟩) (fun A R s => A.in1.units < cLine ∧ ∃ ks vs, (tupleKind (mixKind prog w)).is s.heap ks a ∧ s.heap.DictOf (mixKind prog w) d vs ∧
      ∀ n, R (.ok (.ret dflt)) { s with toks := s.toks + n }) :=
  .of_wp fun A R s ⟨hu, ks, vs, hkey, hm, h⟩ => by
    show wpAny _ _ (dictGet d (.ref a) >>= _) _ _ s
    refine wpAny_bind (get_miss hu hkey hm fun n => ?_)
    show wpAny _ _ (Builtin.Dict.missed d (.ref a) >>= _) _ _ _
    exact wpAny_bind (wpAny_missed_other hd (wpAny_pure ⟨dflt, rfl, h n⟩))
end
end Tq
namespace Tq
open PySem PySem.Spec PyProof.Rows L2
/-! ### a tuple without attributes of its own: dict(t) reads it -/
def PlainT (h : Heap) (p : Addr) (xs : List V) : Prop := xs.length ≤ sizeLine ∧ ∃ its : List Value, Vals xs its ∧ ∃ n, h.get? p = some { cls := .type "tuple", data := .seq its.toArray n }
def TPO (p : Addr) (xs : List V) : HO := .ext fun h => PlainT h p xs
theorem tpo_new {w : World} {P : Program} {H : Hp} {h : Heap} {a : Addr} {xs : List V} (T : PlainT h a xs) : ObjOk P w H h a (TPO a xs) := by
  have ⟨_, its, _, n, g⟩ := T
  exact ⟨T, ⟨_, g⟩, fun _ _ ⟨z, its, r, n, g⟩ k => ⟨z, its, r, n, k _ g⟩⟩
def tTupP (tr : TA) : TE := fun σ H Q => tr σ H fun xs H1 => xs.length ≤ sizeLine ∧ ∀ p, H1 p = none → Q (.ref p) (upd H1 p (TPO p xs))
section
variable {X : Cx} {K : PySem.W.Frag} {H H1 : Hp} {Q : VK} {σ : L2.St} {a p : Addr} {x y v : V} {xs ys : List V} {ta tb te : TE} {tr : TA}
theorem pe_tupP {es : List Expr} {x1 : Pos} (h : PA X es tr) {k : Nat} : PE X (.Tuple es k x1) (tTupP tr) := by
  refine ⟨fun pins s σ H Q I hq => ?_⟩
  refine wpAny_Tuple_spliced (thn (h.run x1 pins s σ H _ I hq) fun us s1 ⟨xs, H1, I1, r, z, q⟩ => ⟨by rw [← r.length]; exact z, ?_⟩)
  have hf : H1 s1.heap.objs.size = none := I1.hok.fresh (Nat.le_refl _)
  refine ⟨.ref s1.heap.objs.size, upd H1 s1.heap.objs.size (TPO s1.heap.objs.size xs), I1.laid (t' := s1.toks) (fun b u e => Heap.get?_push_of_some _ e) (Nat.le_refl _) (tpo_new ?_), rfl, q _ hf⟩
  exact ⟨z, us, r, 0, Heap.get?_push_size _ rfl⟩
theorem l_tupP (q : tr σ H fun xs H1 => xs.length ≤ sizeLine ∧ ∀ p, H1 p = none → Q (.ref p) (upd H1 p (TPO p xs))) : tTupP tr σ H Q := q
/-- tuple(list), plain -/
def rTupP (K : PySem.W.Frag) : List V → Hp → VK → Prop := fun xs H Q => ∃ p ys, xs = [.ref p] ∧ SqL K H p ys ∧ ∀ l, H l = none → Q (.ref l) (upd H l (TPO l ys))
theorem c_tupP : CallR X (.type "tuple") (rTupP X.K) := by
  intro pins s σ H xs us Q I r h
  obtain ⟨p, ys, rfl, hq, q⟩ := h
  obtain ⟨u, rfl, rx⟩ := vals1 r
  cases rx
  obtain ⟨its, r', pl, hz⟩ := I.list hq
  have hlen := r'.length
  refine call_tuple_list pl.isList (fun h' kp => ?_) (by simp only [List.size_toArray] <;> omega)
  have I1 : Inv X pins σ H { s with heap := h' } := I.kept (t' := s.toks) kp
  have I2 : Inv X pins σ (upd H h'.objs.size (TPO h'.objs.size ys)) { s with heap := h'.push { cls := .type "tuple", data := .seq its.toArray } } :=
    I1.laid (t' := s.toks) (fun b o e => Heap.get?_push_of_some _ e) (Nat.le_refl _) (tpo_new ⟨hz, its, r', 0, Heap.get?_push_size _ rfl⟩)
  exact ⟨.ref h'.objs.size, _, I2, rfl, q _ (I1.hok.fresh (Nat.le_refl _))⟩
theorem k_tupP (h : X.K = K) : CallR X (.type "tuple") (rTupP K) := h ▸ c_tupP
/-- it is a tuple after all -/
theorem tpo_tup {pins : List (Addr × Obj)} {s : Shared} (I : Inv X pins σ H s) (g : H a = some (TPO a xs)) : Inv X pins σ (upd H a (.tup xs)) s := by
  have ⟨⟨z, its, r, n, e⟩, _⟩ := I.hok a _ g
  exact I.write (h' := s.heap) (t' := s.toks) (x := a) (e := a) (by rw [g]; trivial) (.inl rfl) (fun _ _ _ q => q) ⟨_, e⟩ ⟨z, its, r, _, e, rfl, _, rfl⟩
end
/-! ### dict(t) of a tuple of pairs -/
section
variable {X : Cx} {K : PySem.W.Frag} {H H1 : Hp} {Q : VK}
theorem pairs_at {pins : List (Addr × Obj)} {σ : L2.St} {H : Hp} {s : Shared} (I : Inv X pins σ H s) : ∀ {ps : List Addr} {kvs : List (Key × V)}, Paired (fun p kv => SqT X.K H p [kV kv.1, kv.2]) ps kvs →
    ∃ (prs : List (Key × Value)) (vps : List (Value × Value)), KV kvs prs ∧ prs.length = ps.length ∧ vps.length = ps.length ∧ ∀ (j : Nat) (k v : Value), vps[j]? = some (k, v) → ∃ b key, ps[j]? = some b ∧ PairAt s.heap b k v ∧ prs[j]? = some (key, v) ∧ keyIs key k = true
  | _, _, .nil => ⟨[], [], .nil, rfl, rfl, fun j k v e => by simp at e⟩
  | _, _, .cons (a := p) (b := kv) h t => by
    obtain ⟨prs, vps, r, hl, hl2, hp⟩ := pairs_at I t
    obtain ⟨its, rv, ht, _⟩ := I.tuple h
    obtain ⟨u, y, ei, ru, ry⟩ := vals2 rv
    subst ei
    refine ⟨(kv.1, y) :: prs, (u, y) :: vps, .cons ⟨rfl, ry⟩ r, by rw [List.length_cons, List.length_cons, hl], by rw [List.length_cons, List.length_cons, hl2], fun j k v e => ?_⟩
    cases j with
    | zero =>
      have e' : (u, y) = (k, v) := Option.some.inj e
      cases e'
      exact ⟨p, kv.1, rfl, .inl ht, rfl, kV_is (P := X.prog) (w := X.w) ru⟩
    | succ j =>
      obtain ⟨b, key, e1, e2, e3, e4⟩ := hp j k v (by simpa using e)
      exact ⟨b, key, by simpa using e1, e2, by simpa using e3, e4⟩
def rDictP (K : PySem.W.Frag) : List V → Hp → VK → Prop := fun xs H Q => ∃ (a : Addr) (ps : List Addr) (kvs : List (Key × V)), xs = [.ref a] ∧ H a = some (TPO a (ps.map V.ref)) ∧ Paired (fun p kv => SqT K H p [kV kv.1, kv.2]) ps kvs ∧
    ∀ p, H p = none → Q (.ref p) (upd (upd H a (.tup (ps.map V.ref))) p (.dK (mergeK [] kvs)))
theorem c_dictP (hcalm : X.calm = true) : CallR X (.type "dict") (rDictP X.K) := by
  intro pins s σ H xs us Q I r q
  obtain ⟨a, ps, kvs, ex, ha, hp, q⟩ := q
  subst ex
  obtain ⟨u, eu, rx⟩ := vals1 r
  subst eu
  cases rx
  obtain ⟨⟨hz, its, rv, n, hg⟩, _⟩ := I.hok a _ ha
  have ei := refs_at rv
  subst ei
  rw [List.length_map] at hz
  obtain ⟨prs, vps, rel, hl, hl2, hpr⟩ := pairs_at I hp
  have P := PairArg.tuple (prog := X.prog) (w := X.w) a (ps.map Value.ref).toArray (fun j => ps[j]?.getD 0) vps
  have I0 := tpo_tup I ha
  refine PySem.call_dict_pairs (knd := mixKind X.prog X.w) (kvs := prs) P (I.ok.hd hcalm) ⟨⟨_, _, hg, rfl, rfl, rfl⟩, by simp [hl2], fun j k v e => ?_⟩ ⟨hl.trans hl2.symm, fun j k v e => ?_⟩ (by rw [hl2]; exact hz) fun h' tk hd' kp => ?_
  · obtain ⟨b, key, e1, e2, e3, e4⟩ := hpr j k v e
    simp only [e1, Option.getD_some]
    exact ⟨by simp [e1], e2⟩
  · obtain ⟨b, key, e1, e2, e3, e4⟩ := hpr j k v e
    exact ⟨key, e3, e4⟩
  · have hm : (s.heap.objs.size == sysModules) = false := beq_eq_false_iff_ne.mpr (Nat.ne_of_gt I.big)
    have hlen : (mergeK [] kvs).length ≤ sizeLine := by
      refine Nat.le_trans (length_mergeK kvs []) ?_
      rw [List.length_nil, Nat.zero_add, rel.length, hl]
      exact hz
    exact ⟨.ref s.heap.objs.size, upd (upd H a (.tup (ps.map V.ref))) s.heap.objs.size (.dK (mergeK [] kvs)), I0.laid (t' := tk) (fun b o e => kp b o (by simp) e) (Nat.le_refl _) (show ObjOk X.prog X.w _ _ _ (.dK (mergeK [] kvs)) from ⟨hlen, hm, merged [] prs, KV.merge rel .nil, hd'⟩), rfl, q _ (I.hok.fresh (Nat.le_refl _))⟩
theorem k_dictP (h : X.K = K) (hc : X.calm = true) : CallR X (.type "dict") (rDictP K) := h ▸ c_dictP hc
end
/-! ### d.get(c, c), c any cell -/
def GetC (K : PySem.W.Frag) (H : Hp) (a : Addr) (y : V) (o : Option V) : Prop := DGet H a y o ∨ ((∃ kvs, Rd H a (.dK kvs)) ∧ o = none ∧ (y = .non ∨ ∃ p, ∃ ks : List Key, y = .ref p ∧ SqT K H p (ks.map kV)))
def tGetC (K : PySem.W.Frag) (td ty tx : TE) : TE := fun σ H Q => td σ H fun x H1 => ∃ a, x = .ref a ∧ IsD H1 a ∧ ty σ H1 fun y H2 => tx σ H2 fun z H3 => ∃ o, GetC K H3 a y o ∧ Q (o.getD z) H3
section
variable {X : Cx} {pins : List (Addr × Obj)} {σ : L2.St} {H : Hp} {s : Shared} {a : Addr} {y d : V} {u r : Value} {o : Option V} {A : Around} {E : Value → Shared → Prop}
theorem d_getC {Q : Value → Shared → Prop} (hu : A.units + 1 < cLine) (I : Inv X pins σ H s) (g : GetC X.K H a y o) (ry : RelV y u) (rd : RelV d r) (h : ∀ w' s', Inv X pins σ H s' → RelV (o.getD d) w' → Q w' s') :
    wpAny (model X.prog X.w) A (call (.builtin "dict.get") [.ref a, u, r]) Q E s := by
  rcases g with g | ⟨⟨kvs, e⟩, rfl, e2⟩
  · exact d_get2 hu I g ry rd h
  · obtain ⟨z, hd, vs, rel, dd⟩ := dk_rd I.hok e
    rcases e2 with rfl | ⟨p, ks, rfl, hs⟩
    · obtain rfl : u = Value.none := ry
      obtain ⟨f, hm, hf⟩ := none_map dd
      refine call_meetsIn PySem.F.slot_dict_get dd.typeIs PySem.F.entry_dict_get (PySem.F.args_dict_get_3 _ _ _) (meets_dict_get_default (noneKind X.prog X.w) a (show (noneKind X.prog X.w).is none .none = true from rfl) hd r) ⟨_, hm, h _ _ (I.tok _) ?_⟩
      rw [hf]
      exact rd
    · cases (show u = Value.ref p from ry)
      obtain ⟨its, rv, ⟨ob, h1, h2, n, h3⟩, _⟩ := I.tuple hs
      have key : (tupleKind (mixKind X.prog X.w)).is s.heap ks p := ⟨ob, its.toArray, n, h1, h2, h3, by simpa using items_are rv⟩
      exact call_meetsIn PySem.F.slot_dict_get dd.typeIs PySem.F.entry_dict_get (PySem.F.args_dict_get_3 _ _ _) (meets_miss hd r) ⟨(show A.in1.units < cLine from tupleKind_room_in1 (knd := mixKind X.prog X.w) hu), ks, vs, key, dd, fun n => h _ _ (I.tok _) rd⟩
end
section
variable {X : Cx} {K : PySem.W.Frag} {o e f : Expr} {apos cpos : Pos} {td ty tx : TE}
theorem pe_getC (hu : X.A.units + 1 < cLine) (ho : PE X o td) (he : PE X e ty) (hf : PE X f tx) (m : M2 X o "get" apos e f cpos) : PE X (.Call (.Attribute o "get" apos) [e, f] [] cpos) (tGetC X.K td ty tx) := by
  refine ⟨fun pins s σ H Q I h => ?_⟩
  refine wpAny_Call_method m.base m.few m.line PySem.F.plainAttrs_dict PySem.F.slot_dict_get PySem.F.type_dict_get (thn (ho.run pins s σ H _ I h) fun u s1 ⟨x, H1, I1, rx, a, ex, d, q1⟩ => ?_)
  subst ex
  obtain rfl : u = Value.ref a := rx
  obtain ⟨t1, t2, _⟩ := isD_at I1 d
  refine ⟨t1, t2, ?_⟩
  rw [m.trees]
  refine Calls.callWith_builtin rfl (Calls.evalArgs_plain (Calls.spliced_cons (thn (he.run pins s1 σ H1 _ I1 q1) fun iv s2 ⟨y, H2, I2, ry, q2⟩ =>
    Calls.spliced_cons (thn (hf.run pins s2 σ H2 _ I2 q2) fun fv s3 ⟨z, H3, I3, rz, ov, g, q3⟩ => Calls.spliced_nil ?_))))
  exact d_getC hu I3 g ry rz fun w' s4 I4 rw' => ⟨_, H3, I4, rw', q3⟩
theorem k_getC (h : X.K = K) (hu : X.A.units + 1 < cLine) (ho : PE X o td) (he : PE X e ty) (hf : PE X f tx) (m : M2 X o "get" apos e f cpos) : PE X (.Call (.Attribute o "get" apos) [e, f] [] cpos) (tGetC K td ty tx) := h ▸ pe_getC hu ho he hf m
end
end Tq
namespace Tq
open PySem PySem.Spec PyProof.Rows L2
/-! ### what stands in a record -/
def four : List Str := ["active", "v1", "x", "c1"]
def Good (zs : List Str) : Cel → Prop
  | .null => True
  | .txt z => z ∈ zs
  | .val n => n ∈ four
def GoodR (zs : List Str) (R : List CRow) : Prop := ∀ r ∈ R, ∀ c ∈ r.getD [], Good zs c
theorem GoodR.texts {zs : List Str} {R : List CRow} (h : GoodR zs R) : ∀ z ∈ recT R, z ∈ zs := by
  intro z hz
  obtain ⟨r, hr, h2⟩ := List.mem_flatMap.mp hz
  obtain ⟨c, hc, h3⟩ := List.mem_filterMap.mp h2
  have g := h r hr c hc
  cases c with
  | txt y => cases h3; exact g
  | _ => cases h3
def CelOk : Cel → Bool
  | .null => true
  | .txt z => PyData.strOk z
  | .val n => PyData.strOk n
def RecOk (R : List CRow) : Prop := ∀ r ∈ R, ∀ c ∈ r.getD [], CelOk c = true
theorem four_ok : ∀ n ∈ four, PyData.strOk n = true := by decide +kernel
theorem GoodR.ok {zs : List Str} {R : List CRow} (h : GoodR zs R) (o : ∀ z ∈ zs, PyData.strOk z = true) : RecOk R := fun r hr c hc => by
  have g := h r hr c hc
  cases c with
  | null => rfl
  | txt z => exact o z g
  | val n => exact four_ok n g
theorem canAll : ∀ {ds : List PyData}, (∀ d ∈ ds, d.canLay0 = true) → PyData.canLayAll0 ds = true
  | [], _ => rfl
  | d :: ds, h => by
    show (d.canLay0 && PyData.canLayAll0 ds) = true
    rw [h d List.mem_cons_self, canAll fun x m => h x (List.mem_cons_of_mem _ m)]; rfl
theorem depthLe {n : Nat} : ∀ {ds : List PyData}, (∀ d ∈ ds, d.depth ≤ n) → PyData.depthAll ds ≤ n
  | [], _ => Nat.zero_le _
  | d :: ds, h => by
    show max d.depth (PyData.depthAll ds) ≤ n
    have a := h d List.mem_cons_self
    have b := depthLe (ds := ds) fun x m => h x (List.mem_cons_of_mem _ m)
    omega
theorem cel_can {c : Cel} (h : CelOk c = true) : c.d.canLay0 = true ∧ c.d.depth ≤ 1 := by
  cases c with
  | null => exact ⟨rfl, Nat.zero_le _⟩
  | txt z => exact ⟨h, Nat.zero_le _⟩
  | val n =>
    refine ⟨?_, Nat.le_refl _⟩
    show (PyData.strOk n && true) = true
    rw [show PyData.strOk n = true from h]; rfl
theorem row_can {r : CRow} (h : ∀ c ∈ r.getD [], CelOk c = true) : (rowD r).canLay0 = true ∧ (rowD r).depth ≤ 2 := by
  cases r with
  | none => exact ⟨rfl, Nat.zero_le _⟩
  | some cs =>
    have a : ∀ d ∈ cs.map Cel.d, d.canLay0 = true ∧ d.depth ≤ 1 := fun d m => by
      obtain ⟨c, hc, rfl⟩ := List.mem_map.mp m
      exact cel_can (h c hc)
    refine ⟨canAll fun d m => (a d m).1, ?_⟩
    show PyData.depthAll (cs.map Cel.d) + 1 ≤ 2
    have := depthLe (n := 1) fun d m => (a d m).2
    omega
theorem rec_can {R : List CRow} (h : RecOk R) : (recD R).canLay0 = true ∧ (recD R).depth ≤ 3 := by
  have a : ∀ d ∈ R.map rowD, d.canLay0 = true ∧ d.depth ≤ 2 := fun d m => by
    obtain ⟨r, hr, rfl⟩ := List.mem_map.mp m
    exact row_can (h r hr)
  refine ⟨canAll fun d m => (a d m).1, ?_⟩
  show PyData.depthAll (R.map rowD) + 1 ≤ 3
  have := depthLe (n := 2) fun d m => (a d m).2
  omega
theorem rec_shaped {R : List CRow} (h : RecOk R) : SeqAt.shaped (recD R) = true := by
  have ⟨a, b⟩ := rec_can h
  show (PyData.canLayAll0 (R.map rowD) && decide (PyData.depthAll (R.map rowD) + 1 ≤ 64)) = true
  have a2 : PyData.canLayAll0 (R.map rowD) = true := a
  have b2 : PyData.depthAll (R.map rowD) + 1 ≤ 3 := b
  rw [a2, decide_eq_true (by omega)]; rfl
section
variable {K : PySem.W.Frag} {H : Hp} {Q : VK} {x y : V} {R : List CRow}
theorem l_neSame (o : RecOk R) (h1 : Dp K H x (recD R)) (h2 : Dp K H y (recD R)) (q : Q (.bl false) H) : rNeD K x y H Q := ⟨_, _, h1, h2, rec_shaped o, rec_shaped o, by rw [PySem.SeqAt.eqv_refl _ (rec_can o).1]; exact q⟩
theorem l_eqSame (o : RecOk R) (h1 : Dp K H x (recD R)) (h2 : Dp K H y (recD R)) (q : Q (.bl true) H) : rEqD K x y H Q := ⟨_, _, h1, h2, rec_shaped o, rec_shaped o, by rw [PySem.SeqAt.eqv_refl _ (rec_can o).1]; exact q⟩
end
/-! ### dicts of texts -/
def dicT (prs : List (Str × Str)) : List (Key × V) := mergeK [] (prs.map fun p => (Sum.inr p.1, V.str p.2))
def look (prs : List (Str × Str)) (z : Str) : Option Str := prs.foldl (fun o p => if z = p.1 then some p.2 else o) none
theorem valV_mergeK : ∀ (more kvs : List (Key × V)) (k : Key), valV (mergeK kvs more) k = more.foldl (fun o p => if k = p.1 then some p.2 else o) (valV kvs k)
  | [], _, _ => rfl
  | p :: r, kvs, k => by
    show valV (mergeK (putK kvs p.1 p.2) r) k = _
    rw [valV_mergeK r, valV_put]; rfl
theorem valV_dicT (prs : List (Str × Str)) (z : Str) : valV (dicT prs) (Sum.inr z) = (look prs z).map V.str := by
  unfold dicT look
  rw [valV_mergeK, List.foldl_map]
  suffices h : ∀ (prs : List (Str × Str)) (o : Option Str), prs.foldl (fun (o : Option V) (p : Str × Str) => if (Sum.inr z : Key) = Sum.inr p.1 then some (V.str p.2) else o) (o.map V.str) = (prs.foldl (fun o p => if z = p.1 then some p.2 else o) o).map V.str from h prs none
  intro prs
  induction prs with
  | nil => intro o; rfl
  | cons p r ih =>
    intro o
    rw [List.foldl_cons, List.foldl_cons]
    by_cases e : z = p.1
    · rw [if_pos e, if_pos (congrArg Sum.inr e)]
      exact ih (some p.2)
    · rw [if_neg e, if_neg (fun h => e (Sum.inr.inj h))]
      exact ih o
theorem dicT_snoc (prs : List (Str × Str)) (a b : Str) : dicT (prs ++ [(a, b)]) = putK (dicT prs) (Sum.inr a) (V.str b) := by
  unfold dicT mergeK
  rw [List.map_append, List.foldl_append]; rfl
theorem dicT_len (prs : List (Str × Str)) : (dicT prs).length ≤ prs.length := by
  have := length_mergeK (prs.map fun p => ((Sum.inr p.1 : Key), V.str p.2)) []
  rw [List.length_map] at this
  have e : (dicT prs).length ≤ 0 + prs.length := this
  omega
/-! ### texts replaced -/
def Cel.sub (f : Str → Option Str) : Cel → Cel
  | .txt z => .txt ((f z).getD z)
  | c => c
def rowSub (f : Str → Option Str) (r : CRow) : CRow := r.map fun cs => cs.map (Cel.sub f)
def recSub (f : Str → Option Str) (R : List CRow) : List CRow := R.map (rowSub f)
theorem rowSub_len (f : Str → Option Str) (r : CRow) : ((rowSub f r).getD []).length = (r.getD []).length := by
  cases r with
  | none => rfl
  | some cs => exact List.length_map ..
theorem celN_sub (f : Str → Option Str) (R : List CRow) : celN (recSub f R) = celN R := by
  unfold celN recSub
  rw [List.map_map]
  congr 1
  exact List.map_congr_left fun r _ => rowSub_len f r
theorem recSub_ok {f : Str → Option Str} {R : List CRow} (h : RecOk R) (o : ∀ z y, f z = some y → PyData.strOk y = true) : RecOk (recSub f R) := by
  intro r hr c hc
  obtain ⟨r0, h0, rfl⟩ := List.mem_map.mp hr
  cases r0 with
  | none => cases hc
  | some cs =>
    obtain ⟨c0, hc0, rfl⟩ := List.mem_map.mp (show c ∈ cs.map (Cel.sub f) from hc)
    have g := h _ h0 c0 hc0
    cases c0 with
    | null => rfl
    | val n => exact g
    | txt z =>
      show PyData.strOk ((f z).getD z) = true
      cases e : f z with
      | none => exact g
      | some y => exact o z y e
theorem recSub_two {f : Str → Option Str} (h : ∀ z, (f ((f z).getD z)).getD ((f z).getD z) = z) (R : List CRow) : recSub f (recSub f R) = R := by
  unfold recSub
  rw [List.map_map]
  conv => rhs; rw [← List.map_id R]
  refine List.map_congr_left fun r _ => ?_
  cases r with
  | none => rfl
  | some cs =>
    show some ((cs.map (Cel.sub f)).map (Cel.sub f)) = some cs
    rw [List.map_map]
    congr 1
    conv => rhs; rw [← List.map_id cs]
    refine List.map_congr_left fun c _ => ?_
    cases c with
    | txt z => exact congrArg Cel.txt (h z)
    | _ => rfl
theorem swap_two (a b z : Str) : (look [(a, b), (b, a)] ((look [(a, b), (b, a)] z).getD z)).getD ((look [(a, b), (b, a)] z).getD z) = z := by
  have l : ∀ z, look [(a, b), (b, a)] z = if z = b then some a else if z = a then some b else none := fun z => rfl
  rw [l z]
  by_cases h1 : z = b
  · rw [if_pos h1]
    show (look _ a).getD a = z
    rw [l a]
    by_cases h2 : a = b
    · rw [if_pos h2, h1]; exact h2
    · rw [if_neg h2, if_pos rfl, h1]; rfl
  · rw [if_neg h1]
    by_cases h2 : z = a
    · rw [if_pos h2]
      show (look _ b).getD b = z
      rw [l b, if_pos rfl, h2]; rfl
    · rw [if_neg h2]
      show (look _ z).getD z = z
      rw [l z, if_neg h1, if_neg h2]; rfl
theorem look_ok {prs : List (Str × Str)} {p : Str → Prop} (h : ∀ q ∈ prs, p q.2) {z y : Str} (e : look prs z = some y) : p y := by
  unfold look at e
  suffices g : ∀ (prs : List (Str × Str)) (o : Option Str), (∀ q ∈ prs, p q.2) → (∀ y, o = some y → p y) → ∀ y, prs.foldl (fun o q => if z = q.1 then some q.2 else o) o = some y → p y from g prs none h (fun y e => nomatch e) y e
  intro prs
  induction prs with
  | nil => intro o _ ho y e; exact ho y e
  | cons q r ih =>
    intro o hq ho y e
    rw [List.foldl_cons] at e
    refine ih _ (fun x m => hq x (List.mem_cons_of_mem _ m)) (fun y e2 => ?_) y e
    split at e2
    · cases e2; exact hq q List.mem_cons_self
    · exact ho y e2
/-! ### steps -/
section
variable {K : PySem.W.Frag} {H H1 : Hp} {Q : VK} {σ : L2.St} {a p : Addr} {x y v : V} {td ty tx : TE} {prs : List (Str × Str)}
theorem l_getC0 (q : td σ H fun x H1 => ∃ a, x = .ref a ∧ IsD H1 a ∧ ty σ H1 fun y H2 => tx σ H2 fun z H3 => ∃ o, GetC K H3 a y o ∧ Q (o.getD z) H3) : tGetC K td ty tx σ H Q := q
theorem l_dg0 (q : td σ H fun x H1 => ty σ H1 fun y H2 => ∃ a v, x = .ref a ∧ DGet H2 a y (some v) ∧ Q v H2) : tDGet td ty σ H Q := q
theorem l_din0 (q : ty σ H fun y H1 => td σ H1 fun x H2 => ∃ a o, x = .ref a ∧ DGet H2 a y o ∧ Q (.bl o.isSome) H2) : tDIn ty td σ H Q := q
theorem l_get {c : Cel} (h : H a = some (.dK (dicT prs))) (hc : Dp K H v c.d) (q : ∀ v', Dp K H v' (c.sub (look prs)).d → Q v' H) : ∃ o, GetC K H a v o ∧ Q (o.getD v) H := by
  cases c with
  | null =>
    rw [dp_none hc] at *
    exact ⟨none, .inr ⟨⟨_, .inl h⟩, rfl, .inl rfl⟩, q _ .non⟩
  | txt z =>
    rw [dp_str hc] at *
    refine ⟨valV (dicT prs) (Sum.inr z), .inl (DGet.k (k := Sum.inr z) h), ?_⟩
    rw [valV_dicT]
    have e : ((look prs z).map V.str).getD (.str z) = .str ((look prs z).getD z) := by cases look prs z <;> rfl
    rw [e]
    exact q _ (.str _)
  | val n =>
    obtain ⟨p, xs, rfl, s, al⟩ := dp_tup hc
    have ex : xs = [n].map V.str := DpAll.strs (zs := [n]) al
    subst ex
    exact ⟨none, .inr ⟨⟨_, .inl h⟩, rfl, .inr ⟨p, [Sum.inr n], rfl, s⟩⟩, q _ (.tup s al)⟩
theorem l_din {z : Str} (h : H a = some (.dK (dicT prs))) (q : Q (.bl (look prs z).isSome) H) : ∃ b o, V.ref a = .ref b ∧ DGet H b (.str z) o ∧ Q (.bl o.isSome) H := by
  refine ⟨a, valV (dicT prs) (Sum.inr z), rfl, DGet.k (k := Sum.inr z) h, ?_⟩
  rw [valV_dicT, Option.isSome_map]
  exact q
theorem l_dg {z u : Str} (h : H a = some (.dK (dicT prs))) (e : look prs z = some u) (q : Q (.str u) H) : ∃ b v, V.ref a = .ref b ∧ DGet H b (.str z) (some v) ∧ Q v H :=
  ⟨a, .str u, rfl, by have g := DGet.k (H := H) (a := a) (k := Sum.inr z) h; rw [valV_dicT, e] at g; exact g, q⟩
theorem l_setDS {z u : Str} {R : Hp → Prop} (h : H p = some (.dK (dicT prs))) (few : prs.length < sizeLine) (q : R (upd H p (.dK (dicT (prs ++ [(z, u)]))))) : rSetD (.ref p) (.str z) (.str u) H R := by
  refine ⟨p, _, rfl, DPut.k (k := Sum.inr z) h (Nat.lt_of_le_of_lt (dicT_len prs) few), ?_⟩
  rw [← dicT_snoc]
  exact q
end
end Tq
namespace Tq
open PySem PySem.Spec PyProof.Rows L2
theorem TK.butN {H H' : Hp} {g : Addr} (b : But g H H') (n : H g = none) : TK H H' := fun c ys r => by
  have nc : c ≠ g := by
    rintro rfl
    rcases r with r | ⟨o, r⟩ <;> rw [n] at r <;> cases r
  rcases r with r | ⟨o, r⟩
  · exact .inl (b _ _ nc r)
  · exact .inr ⟨o, b _ _ nc r⟩
theorem row_le {R : List CRow} {i : Nat} {r : CRow} (h : R[i]? = some r) : (r.getD []).length ≤ celN R := by
  cases r with
  | none => exact Nat.zero_le _
  | some cs =>
    have := celN_row h
    show cs.length ≤ _
    omega
end Tq
namespace Tq
open PySem PySem.Spec PyProof.Rows L2
theorem dg_at {H : Hp} {a : Addr} {prs : List (Str × Str)} {z : Str} (h : H a = some (.dK (dicT prs))) : DGet H a (.str z) ((look prs z).map V.str) := by
  rw [← valV_dicT]
  exact DGet.k (k := Sum.inr z) h
theorem dg_some {H : Hp} {a : Addr} {prs : List (Str × Str)} {z u : Str} (h : H a = some (.dK (dicT prs))) (e : look prs z = some u) : DGet H a (.str z) (some (V.str u)) := by
  have g := dg_at (z := z) h
  rw [e] at g
  exact g
end Tq
namespace Tq
open PySem PySem.Spec PyProof.Rows L2
theorem seqIx {n : Int} {k : Nat} (h0 : 0 ≤ n) (h1 : n < k) : seqIndex? n k = some n.toNat := by
  have e : ¬ n < 0 := by omega
  simp [seqIndex?, e, h0, h1]
theorem map_erase {α β : Type} (f : α → β) (l : List α) (i : Nat) : (l.map f).eraseIdx i = (l.eraseIdx i).map f := by
  rw [List.eraseIdx_eq_take_drop_succ, List.eraseIdx_eq_take_drop_succ, List.map_append, List.map_take, List.map_drop]
theorem erase_perm {α : Type} {l : List α} {i : Nat} {z : α} (h : l[i]? = some z) : (z :: l.eraseIdx i).Perm l := by
  obtain ⟨hl, e⟩ := List.getElem?_eq_some_iff.mp h
  have s : l = l.take i ++ z :: l.drop (i + 1) := by rw [← e, List.getElem_cons_drop, List.take_append_drop]
  conv => rhs; rw [s]
  rw [List.eraseIdx_eq_take_drop_succ]
  exact List.perm_middle.symm
theorem cut_hi {xs : List V} {n : Int} (h0 : 0 ≤ n) (h1 : n ≤ xs.length) : cutV xs none (some n) = xs.take n.toNat := by
  unfold cutV
  have e1 : HT.sIx xs.length 0 none = 0 := rfl
  have e2 : HT.sIx xs.length xs.length (some n) = n.toNat := by
    show (if n < 0 then (n + (xs.length : Int)).toNat else min n.toNat xs.length) = _
    rw [if_neg (by omega)]; omega
  rw [e1, e2]; rfl
theorem cut_lo {xs : List V} {n : Int} (h0 : 0 ≤ n) (h1 : n ≤ xs.length) : cutV xs (some n) none = xs.drop n.toNat := by
  unfold cutV
  have e1 : HT.sIx xs.length xs.length none = xs.length := rfl
  have e2 : HT.sIx xs.length 0 (some n) = n.toNat := by
    show (if n < 0 then (n + (xs.length : Int)).toNat else min n.toNat xs.length) = _
    rw [if_neg (by omega)]; omega
  rw [e1, e2]
  exact List.take_of_length_le (by rw [List.length_drop]; omega)
section
variable {K : PySem.W.Frag} {H H1 : Hp} {Q : VK} {σ : L2.St} {a p : Addr} {x y v : V} {xs : List V} {te ti : TE} {tl th : TO}
theorem l_sl0 {r : V → Option Int → Option Int → Hp → VK → Prop} (q : te σ H fun x H1 => tl σ H1 fun l H2 => th σ H2 fun u H3 => r x l u H3 Q) : tSl r te tl th σ H Q := q
theorem l_slL {lo hi : Option Int} (h : SqL K H p xs) (q : ∀ r, H r = none → Q (.ref r) (upd H r (.lst (cutV xs lo hi)))) : rSlL K (.ref p) lo hi H Q := ⟨p, xs, rfl, h, q⟩
theorem l_slT {lo hi : Option Int} (h : SqT K H p xs) (c : ¬ (HT.sIx xs.length 0 lo = 0 ∧ HT.sIx xs.length xs.length hi = xs.length)) (q : ∀ r, H r = none → Q (.ref r) (upd H r (.tup (cutV xs lo hi)))) : rSlT K (.ref p) lo hi H Q := ⟨p, xs, rfl, h, c, q⟩
theorem dp_txts (l : List Str) : DpAll K H (l.map V.str) ((l.map Cel.txt).map Cel.d) := by
  have e : (l.map Cel.txt).map Cel.d = l.map PyData.str := by rw [List.map_map]; rfl
  rw [e]
  exact dp_texts l
end
end Tq
namespace Tq
open PySem PySem.Spec PyProof.Rows L2
section
variable {H : Hp} {σ : L2.St} {te : TE} {R : Option Int → Hp → Prop}
theorem l_np (q : R none H) : tNoPart σ H R := q
theorem l_part (q : te σ H fun x H1 => ∃ i, x = .int i ∧ R (some i) H1) : tPart te σ H R := q
theorem sIx_at {n d : Nat} {i : Int} (h0 : 0 ≤ i) (h1 : i ≤ n) : HT.sIx n d (some i) = i.toNat := by
  show (if i < 0 then (i + (n : Int)).toNat else min i.toNat n) = _
  rw [if_neg (by omega)]; omega
end
end Tq
namespace Tq
open PySem PySem.Spec PyProof.Rows L2
theorem Tape.butp {H H' : Hp} {t a p : Addr} (h : Tape H t a) (b : But p H H') (n1 : p ≠ t) (n2 : p ≠ a) : Tape H' t a := by
  obtain ⟨ns, q, c, d, n', h1, h2, h3, h4, h5⟩ := h
  exact ⟨ns, q, c, d, n', h1, h2, h3, b _ _ n2.symm h4, b _ _ n1.symm h5⟩
/-- the pairs at ps -/
def PairsT (K : PySem.W.Frag) (H : Hp) (ps : List Addr) (prs : List (Str × Str)) : Prop := Paired (fun p kv => SqT K H p [kV kv.1, kv.2]) ps (prs.map fun p => ((Sum.inr p.1 : Key), V.str p.2))
theorem PairsT.keep {K : PySem.W.Frag} {H H' : Hp} (k : TK H H') : ∀ {ps : List Addr} {prs : List (Str × Str)}, PairsT K H ps prs → PairsT K H' ps prs := by
  intro ps prs h
  unfold PairsT at *
  generalize prs.map (fun p => ((Sum.inr p.1 : Key), V.str p.2)) = l at h
  induction h with
  | nil => exact .nil
  | cons a _ ih => exact .cons (k.sq a) ih
theorem PairsT.snoc {K : PySem.W.Frag} {H : Hp} {ps : List Addr} {prs : List (Str × Str)} {p : Addr} {a b : Str} (h : PairsT K H ps prs) (s : SqT K H p [V.str a, V.str b]) : PairsT K H (ps ++ [p]) (prs ++ [(a, b)]) := by
  unfold PairsT at *
  rw [List.map_append]
  exact Paired.snoc h s
theorem PairsT.len {K : PySem.W.Frag} {H : Hp} {ps : List Addr} {prs : List (Str × Str)} (h : PairsT K H ps prs) : ps.length = prs.length := by
  unfold PairsT at h
  have e := Paired.length h
  rw [List.length_map] at e
  exact e
theorem PairsT.at {K : PySem.W.Frag} {H : Hp} : ∀ {ps : List Addr} {prs : List (Str × Str)} {i : Nat} {p : Addr}, PairsT K H ps prs → ps[i]? = some p → ∃ a b, prs[i]? = some (a, b) ∧ SqT K H p [V.str a, V.str b]
  | [], [], i, p, _, e => by simp at e
  | q :: ps, (a, b) :: prs, 0, p, h, e => by
    have h2 : Paired (fun p (kv : Key × V) => SqT K H p [kV kv.1, kv.2]) (q :: ps) (((Sum.inr a : Key), V.str b) :: prs.map fun p => ((Sum.inr p.1 : Key), V.str p.2)) := h
    cases h2 with
    | cons s _ =>
      simp at e; subst e
      exact ⟨a, b, rfl, s⟩
  | q :: ps, (a, b) :: prs, i + 1, p, h, e => by
    have h2 : Paired (fun p (kv : Key × V) => SqT K H p [kV kv.1, kv.2]) (q :: ps) (((Sum.inr a : Key), V.str b) :: prs.map fun p => ((Sum.inr p.1 : Key), V.str p.2)) := h
    cases h2 with
    | cons _ t =>
      obtain ⟨x, y, h3, h4⟩ := PairsT.at (i := i) (ps := ps) (prs := prs) t (by simpa using e)
      exact ⟨x, y, by simpa using h3, h4⟩
  | _ :: _, [], _, _, h, _ => by cases (show Paired _ (_ :: _) [] from h)
  | [], _ :: _, _, _, _, e => by simp at e
theorem zip_back : ∀ prs : List (Str × Str), (prs.map (·.1)).zip (prs.map (·.2)) = prs
  | [] => rfl
  | p :: r => by
    rw [List.map_cons, List.map_cons, List.zip_cons_cons, zip_back r]
theorem rsub_len (f : Str → Option Str) (R : List CRow) : (recSub f R).length = R.length := List.length_map ..
end Tq
namespace Tq
open PySem PySem.Spec PyProof.Rows L2
section
variable {X : Cx} {K : PySem.W.Frag} {H : Hp} {Q : VK} {σ : L2.St} {a p d : Addr} {td ty te : TE}
theorem l_dc {wi : TI} {g : TG} {tt : TT} {tk tv : TE} {vs : List Nat} (q : wi σ H fun J H1 => ∀ D, H1 D = none → ∃ W : Nat → Nat → Hp → Prop, (∃ m, W 0 m (upd H1 D (.dK []))) ∧ ∀ i m H, W i m H →
  (J.stop i H ∧ Q (.ref D) H) ∨ (J.go i H ∧ ∃ Nx : Hp → Prop, (∀ H', Nx H' → ∃ m', m' < m ∧ W (i + 1) m' H') ∧ ∀ x H', J.yld i H x H' → g x (wipe σ vs) H' fun σ2 H2 => wipe σ2 vs = wipe σ vs ∧ tt σ2 H2 fun b H3 =>
    if b = true then tk σ2 H3 fun y H4 => tv σ2 H4 fun z H5 => ∃ kvs k, y = kV k ∧ H5 D = some (.dK kvs) ∧ kvs.length < sizeLine ∧ Nx (upd H5 D (.dK (putK kvs k z))) else Nx H3)) : tDc wi g tt tk tv vs σ H Q := q
def rListD : List V → Hp → VK → Prop := fun xs H Q => ∃ (a : Addr) (kvs : List (Key × V)), xs = [.ref a] ∧ Rd H a (.dK kvs) ∧ ∀ p, H p = none → Q (.ref p) (upd H p (.lst (kvs.map fun kv => kV kv.1)))
theorem c_listD (hc : X.calm = true) : CallR X (.type "list") rListD := call_listD hc
theorem l_listD {kvs : List (Key × V)} (h : H a = some (.dK kvs)) (q : ∀ p, H p = none → Q (.ref p) (upd H p (.lst (kvs.map fun kv => kV kv.1)))) : rListD [.ref a] H Q := ⟨a, kvs, rfl, .inl h, q⟩
theorem val_keys (ks : List Str) (z : Str) : valV (keysT ks) (Sum.inr z) = if z ∈ ks then some (.bl true) else none := by
  induction ks with
  | nil => simp [keysT, valV]
  | cons x r ih =>
    have e : keysT (x :: r) = (Sum.inr x, V.bl true) :: keysT r := rfl
    rw [e]
    by_cases h : x = z
    · rw [valV_pos (p := ((Sum.inr x : Key), V.bl true)) (congrArg Sum.inr h), if_pos (by rw [h]; exact List.mem_cons_self)]
    · rw [valV_neg (p := ((Sum.inr x : Key), V.bl true)) (fun c => h (Sum.inr.inj c)), ih]
      by_cases m : z ∈ r
      · rw [if_pos m, if_pos (List.mem_cons_of_mem _ m)]
      · rw [if_neg m, if_neg (fun c => by
          rcases List.mem_cons.mp c with c | c
          · exact h c.symm
          · exact m c)]
theorem l_notD {ks : List Str} {z : Str} (h : H d = some (.dK (keysT ks))) (q : Q (.bl (!decide (z ∈ ks))) H) : ∃ b o, V.ref d = .ref b ∧ DGet H b (.str z) o ∧ Q (.bl (!o.isSome)) H := by
  refine ⟨d, _, rfl, DGet.k (k := Sum.inr z) h, ?_⟩
  rw [val_keys]
  by_cases m : z ∈ ks
  · rw [if_pos m]; rw [decide_eq_true m] at q; exact q
  · rw [if_neg m]; rw [decide_eq_false m] at q; exact q
theorem l_nd0 (q : ty σ H fun y H1 => td σ H1 fun x H2 => ∃ a o, x = .ref a ∧ DGet H2 a y o ∧ Q (.bl (!o.isSome)) H2) : tDNotIn ty td σ H Q := q
end
theorem freeT_same {a b : List Str} (h : ∀ z, z ∈ a ↔ z ∈ b) (R : List CRow) : freeT a R = freeT b R := by
  have e : fstep a = fstep b := by
    funext acc c
    cases c <;> simp only [fstep, h]
  have e2 : rowF a = rowF b := by
    funext acc r
    unfold rowF; rw [e]
  unfold freeT; rw [e2]
end Tq
namespace Tq
open PySem PySem.Spec PyProof.Rows L2
section
variable {prog : Program} {w : World} {A : Around} {E : Value → Shared → Prop} {s : Shared}
/-- a zip of two tuples gives its next pair, an earlier pair being still in use -/
theorem zt_step {z TI TO T i1 i2 l1 l2 : Addr} {f : Bool} {oT : Obj} {k1 k2 : Nat} {xs ys : Array Value} {x y : Value} {Q : Option Value → Shared → Prop} (D : ZipApart z TI TO i1 i2 l1 l2)
    (hz : IsZipHeld s.heap z TI TO T f) (hT : s.heap.get? T = some oT) (hTI : IsPair s.heap TI (.ref i1) (.ref i2)) (h1 : s.heap.IsTupleIter i1 l1 k1) (h2 : s.heap.IsTupleIter i2 l2 k2)
    (hl1 : s.heap.IsTuple l1 xs) (hl2 : s.heap.IsTuple l2 ys) (hx : xs[k1]? = some x) (hy : ys[k2]? = some y)
    (hQ : ∀ h', IsZipHeld h' z TI TO T true → h'.IsTupleIter i1 l1 (k1 + 1) → h'.IsTupleIter i2 l2 (k2 + 1) → IsPair h' s.heap.objs.size x y → h'.objs.size = s.heap.objs.size + 1 →
      (∀ c o, c ≠ z → c ≠ i1 → c ≠ i2 → s.heap.get? c = some o → h'.get? c = some o) → Q (some (.ref s.heap.objs.size)) { s with heap := h' }) : wpAny (model prog w) A (pyNext (.ref z)) Q E s := by
  have ty : s.TypeIs (.ref z) "zip" := ⟨_, hz, rfl⟩
  unfold pyNext
  refine wpAny_bind (wpAny_attempt (wpAny_callSpecial?_slot (name := Str.ofString "__next__") ty F.slot_zip_next (wpAny_call_entry F.slot_zip_next ty F.entry_zip_next ?_ (F.args_zip_next_1 _))))
  show wpAny _ _ (field (.ref z) 2 >>= _) _ _ _
  refine wpAny_bind (wpAny_field hz rfl (x := .bool false) rfl ?_); show wpAny _ _ (field (.ref z) 3 >>= _) _ _ _
  refine wpAny_bind (wpAny_field hz rfl (x := .ref TI) rfl (wpAny_bind (wpAny_seqItems hTI rfl ?_)))
  show wpAny _ _ (Builtin.SmallTypes.ownedTupleIsFree (.ref z) >>= _) _ _ _
  refine wpAny_bind (wpAny_tupleHeld_zip hz hT fun g1 hz1 e1 => ?_)
  simp only [Bool.false_eq_true, if_false]; refine wpAny_bind ?_
  rw [← Array.forIn_toList]; simp only [List.forIn_cons, List.forIn_nil]
  refine wpAny_bind (wpAny_bind (wpAny_holding ?_)); show wpAny _ _ (Builtin.SmallTypes.nextOf (.ref i1) >>= _) _ _ _
  refine wpAny_bind (RZ.nextOf_tuple_item (s := { s with heap := g1 }) (h1.extBut e1.extBut D.i1z) (hl1.extBut e1.extBut D.l1z) hx fun g2 p1 e2 => wpAny_pure (wpAny_pure ?_))
  refine wpAny_bind (wpAny_bind (wpAny_holding ?_)); show wpAny _ _ (Builtin.SmallTypes.nextOf (.ref i2) >>= _) _ _ _
  refine wpAny_bind (RZ.nextOf_tuple_item (s := { s with heap := g2 }) ((h2.extBut e1.extBut D.i2z).extBut e2.extBut D.i12.symm) ((hl2.extBut e1.extBut D.l2z).extBut e2.extBut D.l2i1) hy fun g3 p2 e3 => wpAny_pure (wpAny_pure (wpAny_pure ?_)))
  show wpAny _ _ (newTuple [x, y] >>= _) _ _ _
  refine wpAny_bind (wpAny_newTuple (wpAny_pure ⟨_, rfl, wpAny_pure ?_⟩))
  show Q (some (.ref g3.objs.size)) _
  have sz : g3.objs.size = s.heap.objs.size := by rw [e3.1, e2.1, e1.1]
  have hz3 : IsZipHeld g3 z TI TO T true := e3.extBut _ _ D.i2z.symm (e2.extBut _ _ D.i1z.symm hz1)
  have pr : IsPair (g3.push { cls := .type "tuple", data := .seq #[x, y] }) g3.objs.size x y := Heap.get?_push_size _ rfl
  have sz4 : (g3.push { cls := .type "tuple", data := .seq #[x, y] }).objs.size = g3.objs.size + 1 := Heap.size_push ..
  rw [sz] at pr sz4 ⊢
  exact hQ _ (Heap.get?_push_of_some _ hz3) ((p1.extBut e3.extBut D.i12).at fun o e => Heap.get?_push_of_some _ e) (p2.at fun o e => Heap.get?_push_of_some _ e) pr sz4
    fun c o c1 c2 c3 e => Heap.get?_push_of_some _ (e3.extBut _ _ c3 (e2.extBut _ _ c2 (e1.extBut _ _ c1 e)))
/-- .. or ends -/
theorem zt_stop {z TI TO T i1 i2 l1 l2 : Addr} {f : Bool} {oT : Obj} {k1 k2 : Nat} {xs ys : Array Value} {Q : Option Value → Shared → Prop} (hh : A.handled = none) (D : ZipApart z TI TO i1 i2 l1 l2)
    (hz : IsZipHeld s.heap z TI TO T f) (hT : s.heap.get? T = some oT) (hTI : IsPair s.heap TI (.ref i1) (.ref i2)) (h1 : s.heap.IsTupleIter i1 l1 k1) (hl1 : s.heap.IsTuple l1 xs) (hx : xs[k1]? = none)
    (hQ : ∀ h', (∀ c o, c ≠ z → c ≠ i1 → s.heap.get? c = some o → h'.get? c = some o) → Q none { s with heap := h' }) : wpAny (model prog w) A (pyNext (.ref z)) Q E s := by
  have ty : s.TypeIs (.ref z) "zip" := ⟨_, hz, rfl⟩
  unfold pyNext
  refine wpAny_bind (wpAny_attempt (wpAny_callSpecial?_slot (name := Str.ofString "__next__") ty F.slot_zip_next (wpAny_call_entry F.slot_zip_next ty F.entry_zip_next ?_ (F.args_zip_next_1 _))))
  show wpAny _ _ (field (.ref z) 2 >>= _) _ _ _
  refine wpAny_bind (wpAny_field hz rfl (x := .bool false) rfl ?_); show wpAny _ _ (field (.ref z) 3 >>= _) _ _ _
  refine wpAny_bind (wpAny_field hz rfl (x := .ref TI) rfl (wpAny_bind (wpAny_seqItems hTI rfl ?_)))
  show wpAny _ _ (Builtin.SmallTypes.ownedTupleIsFree (.ref z) >>= _) _ _ _
  refine wpAny_bind (wpAny_tupleHeld_zip hz hT fun g1 hz1 e1 => ?_)
  simp only [Bool.false_eq_true, if_false]; refine wpAny_bind ?_
  rw [← Array.forIn_toList]; simp only [List.forIn_cons, List.forIn_nil]
  refine wpAny_bind (wpAny_bind (wpAny_holding ?_)); show wpAny _ _ (Builtin.SmallTypes.nextOf (.ref i1) >>= _) _ _ _
  refine wpAny_bind (RZ.nextOf_tuple_end (s := { s with heap := g1 }) hh (h1.extBut e1.extBut D.i1z) (hl1.extBut e1.extBut D.l1z) hx fun g2 e e2 he => ?_)
  obtain ⟨o, ho, hc⟩ := he
  refine wpAny_bind (wpAny_isInstance (T := "StopIteration") (b := true) ⟨o, ho, hc⟩ isSubtype_stop ?_)
  exact wpAny_pure (hQ _ fun c o c1 c2 x => e2 _ _ c2 (e1.extBut _ _ c1 x))
end
end Tq
namespace Tq
open PySem PySem.Spec PyProof.Rows L2
/-- the places that a zip of two tuples uses -/
structure ZP where
  z : Addr
  TI : Addr
  TO : Addr
  i1 : Addr
  i2 : Addr
  l1 : Addr
  l2 : Addr
/-- what the walk writes, and where it gathers -/
def ZP.W (p : ZP) (S : Addr) : List Addr := [S, p.z, p.TO, p.i1, p.i2]
structure ZSt (p : ZP) (S : Addr) (xs ys : Array Value) (i : Nat) (h : Heap) : Prop where
  a1 : h.IsTupleIter p.i1 p.l1 i
  a2 : h.IsTupleIter p.i2 p.l2 i
  b1 : h.IsTuple p.l1 xs
  b2 : h.IsTuple p.l2 ys
  ti : IsPair h p.TI (.ref p.i1) (.ref p.i2)
  to_ : ∃ o, h.get? p.TO = some o
  at_ : (i = 0 ∧ IsZip h p.z p.TI p.TO .none ∧ IsPair h p.TO .none .none) ∨ ∃ T f oT, IsZipHeld h p.z p.TI p.TO T f ∧ h.get? T = some oT ∧ T ∉ p.W S
structure ZOff (p : ZP) (S : Addr) : Prop where
  D : ZipApart p.z p.TI p.TO p.i1 p.i2 p.l1 p.l2
  sz : S ≠ p.z
  sTI : S ≠ p.TI
  sTO : S ≠ p.TO
  s1 : S ≠ p.i1
  s2 : S ≠ p.i2
  t1 : S ≠ p.l1
  t2 : S ≠ p.l2
theorem ZSt.keep {p : ZP} {S : Addr} {xs ys : Array Value} {i : Nat} {h h' : Heap} (x : ZSt p S xs ys i h) (O : ZOff p S) (k : ∀ b o, b ≠ S → h.get? b = some o → h'.get? b = some o) : ZSt p S xs ys i h' where
  a1 := x.a1.at fun o e => k _ o O.s1.symm e
  a2 := x.a2.at fun o e => k _ o O.s2.symm e
  b1 := x.b1.at fun o e => k _ o O.t1.symm e
  b2 := x.b2.at fun o e => k _ o O.t2.symm e
  ti := k _ _ O.sTI.symm x.ti
  to_ := x.to_.imp fun o e => k _ o O.sTO.symm e
  at_ := by
    rcases x.at_ with ⟨e, h1, h2⟩ | ⟨T, f, oT, h1, h2, h3⟩
    · exact .inl ⟨e, k _ _ O.sz.symm h1, k _ _ O.sTO.symm h2⟩
    · exact .inr ⟨T, f, oT, k _ _ O.sz.symm h1, k _ _ (fun e => h3 (by rw [e]; exact List.mem_cons_self)) h2, h3⟩
section
variable {prog : Program} {w : World} {A : Around} {E : Value → Shared → Prop} {s : Shared} {p : ZP} {S : Addr} {xs ys : Array Value}
theorem ZSt.low {i : Nat} {h : Heap} (x : ZSt p S xs ys i h) (hS : S < h.objs.size) : ∀ b ∈ p.W S, b < h.objs.size := by
  intro b hb
  obtain ⟨o1, e1, _⟩ := x.a1
  obtain ⟨o2, e2, _⟩ := x.a2
  have zz : (∃ o, h.get? p.z = some o) := by
    rcases x.at_ with ⟨e, h1, h2⟩ | ⟨T, f, oT, h1, h2, h3⟩
    · exact ⟨_, h1⟩
    · exact ⟨_, h1⟩
  obtain ⟨oz, ez⟩ := zz
  unfold ZP.W at hb
  obtain ⟨oT, eT⟩ := x.to_
  simp only [List.mem_cons, List.not_mem_nil, or_false] at hb
  rcases hb with e | e | e | e | e
  · rw [e]; exact hS
  · rw [e]; exact Heap.lt_size ez
  · rw [e]; exact Heap.lt_size eT
  · rw [e]; exact Heap.lt_size e1
  · rw [e]; exact Heap.lt_size e2
theorem zt_next {i : Nat} {x y : Value} {Q : Option Value → Shared → Prop} (st : ZSt p S xs ys i s.heap) (O : ZOff p S) (new : s.heap.objs.size ∉ p.W S) (hx : xs[i]? = some x) (hy : ys[i]? = some y)
    (hQ : ∀ h', ZSt p S xs ys (i + 1) h' → IsPair h' s.heap.objs.size x y → (∀ c o, c ∉ [p.z, p.TO, p.i1, p.i2] → s.heap.get? c = some o → h'.get? c = some o) → Q (some (.ref s.heap.objs.size)) { s with heap := h' }) : wpAny (model prog w) A (pyNext (.ref p.z)) Q E s := by
  rcases st.at_ with ⟨e, h1, h2⟩ | ⟨T, f, oT, h1, h2, h3⟩
  · refine RZ.pyNext_zipT_item O.D h1 st.ti h2 st.a1 st.a2 st.b1 st.b2 hx hy fun h' c1 c2 c3 c4 c5 c6 c7 => hQ h' ?_ c5 fun c o m e => c7 c o (fun e => m (by simp [e])) (fun e => m (by simp [e])) (fun e => m (by simp [e])) (fun e => m (by simp [e])) e
    exact ⟨c3, c4, st.b1.at fun o e => c7 _ o O.D.l1z O.D.l1TO O.D.l1i1 O.D.l1i2 e, st.b2.at fun o e => c7 _ o O.D.l2z O.D.l2TO O.D.l2i1 O.D.l2i2 e, c7 _ _ O.D.TIz O.D.TITO O.D.TIi1 O.D.TIi2 st.ti, ⟨_, c2⟩, .inr ⟨_, false, _, c1, c5, new⟩⟩
  · have m : ∀ b, b ∈ [p.z, p.TO, p.i1, p.i2] → T ≠ b := fun b hb e => h3 (by rw [e]; exact List.mem_cons_of_mem _ hb)
    refine zt_step O.D h1 h2 st.ti st.a1 st.a2 st.b1 st.b2 hx hy fun h' c1 c3 c4 c5 c6 c7 => hQ h' ?_ c5 fun c o m e => c7 c o (fun e => m (by simp [e])) (fun e => m (by simp [e])) (fun e => m (by simp [e])) e
    exact ⟨c3, c4, st.b1.at fun o e => c7 _ o O.D.l1z O.D.l1i1 O.D.l1i2 e, st.b2.at fun o e => c7 _ o O.D.l2z O.D.l2i1 O.D.l2i2 e, c7 _ _ O.D.TIz O.D.TIi1 O.D.TIi2 st.ti, st.to_.imp fun o e => c7 _ o O.D.TOz O.D.TOi1 O.D.TOi2 e, .inr ⟨T, true, oT, c1, c7 _ _ (m _ (by simp)) (m _ (by simp)) (m _ (by simp)) h2, h3⟩⟩
theorem zt_end {i : Nat} {Q : Option Value → Shared → Prop} (hh : A.handled = none) (st : ZSt p S xs ys i s.heap) (O : ZOff p S) (hx : xs[i]? = none)
    (hQ : ∀ h', (∀ c o, c ∉ [p.z, p.TO, p.i1, p.i2] → s.heap.get? c = some o → h'.get? c = some o) → Q none { s with heap := h' }) : wpAny (model prog w) A (pyNext (.ref p.z)) Q E s := by
  rcases st.at_ with ⟨e, h1, h2⟩ | ⟨T, f, oT, h1, h2, h3⟩
  · exact RZ.pyNext_zipT_end hh O.D h1 st.ti h2 st.a1 st.a2 st.b1 st.b2 (.inl hx) fun h' c7 => hQ h' fun c o m e => c7 c o (fun e => m (by simp [e])) (fun e => m (by simp [e])) (fun e => m (by simp [e])) (fun e => m (by simp [e])) e
  · exact zt_stop (k2 := 0) (ys := #[]) hh O.D h1 h2 st.ti st.a1 st.b1 hx fun h' c7 => hQ h' fun c o m e => c7 c o (fun e => m (by simp [e])) (fun e => m (by simp [e])) e
/-- the pairs so far -/
structure ZG (p : ZP) (S : Addr) (xs ys : Array Value) (h : Heap) (as : List Addr) : Prop where
  off : ∀ a ∈ as, a ∉ p.W S
  low : ∀ a ∈ as, p.i1 < a
  nd : as.Nodup
  pairs : ∀ (j : Nat) (a : Addr), as[j]? = some a → ∃ x y, xs[j]? = some x ∧ ys[j]? = some y ∧ IsPair h a x y
theorem ZG.at_ {h h' : Heap} {as : List Addr} (g : ZG p S xs ys h as) (k : ∀ b o, b ∉ p.W S → h.get? b = some o → h'.get? b = some o) : ZG p S xs ys h' as :=
  ⟨g.off, g.low, g.nd, fun j a e => by
    obtain ⟨x, y, h1, h2, h3⟩ := g.pairs j a e
    exact ⟨x, y, h1, h2, k _ _ (g.off a (List.mem_of_getElem? e)) h3⟩⟩
theorem zt_loop {R : Result → Shared → Prop} {h0 : Heap} (hh : A.handled = none) (O : ZOff p S) (same : xs.size = ys.size) (few : xs.size ≤ sizeLine) (res : Value)
    (hR : ∀ h' tk acc c as, (∀ b o, b ∉ p.W S → h0.get? b = some o → h'.get? b = some o) → h'.get? S = some { cls := .type "list", dict := none, data := .seq acc c, slots := #[] } → as.length = xs.size → ZG p S xs ys h' as → acc.toList = as.map Value.ref →
      R (.ok (.ret res)) { s with heap := h', toks := tk }) :
    ∀ (k i : Nat) (h : Heap) (tk c : Nat) (acc : Array Value) (as : List Addr), xs.size - i = k → i ≤ xs.size → ZSt p S xs ys i h → (∀ b o, b ∉ p.W S → h0.get? b = some o → h.get? b = some o) →
      h.get? S = some { cls := .type "list", dict := none, data := .seq acc c, slots := #[] } → acc.toList = as.map Value.ref → as.length = i → ZG p S xs ys h as →
      codeAny (model prog w) A (.builtin "list.extend.loop" ⟨[.ref S, .ref p.z, res], []⟩) R { s with heap := h, toks := tk } := by
  have mS : S ∉ [p.z, p.TO, p.i1, p.i2] := by
    simp only [List.mem_cons, List.not_mem_nil, or_false, not_or]
    exact ⟨O.sz, O.sTO, O.s1, O.s2⟩
  have mW : ∀ b, b ∉ p.W S → b ∉ [p.z, p.TO, p.i1, p.i2] := fun b hb m => hb (List.mem_cons_of_mem _ m)
  intro k
  induction k with
  | zero =>
    intro i h tk c acc as hk hi st keep hS ha al g
    refine codeAny_builtin PySem.F.entry_extend_loop ?_; rw [Around.under_plainId PySem.F.plain_extend_loop _]
    show wpAny _ A.in1 (pyNext (.ref p.z) >>= _) _ _ _
    refine wpAny_bind (zt_end (s := { s with heap := h, toks := tk }) (A := A.in1) hh st O (Array.getElem?_eq_none (by omega)) fun h' e => ?_)
    exact wpAny_pure (hR h' tk acc c as (fun b o hb q => e b o (mW b hb) (keep b o hb q)) (e _ _ mS hS) (by omega) (g.at_ fun b o hb q => e b o (mW b hb) q) ha)
  | succ k ih =>
    intro i h tk c acc as hk hi st keep hS ha al g
    have lt : i < xs.size := by omega
    have hx : xs[i]? = some xs[i] := Array.getElem?_eq_getElem lt
    have hy : ys[i]? = some (ys[i]'(by omega)) := Array.getElem?_eq_getElem (by omega)
    have as_ : acc.size = i := by rw [← Array.length_toList, ha, List.length_map, al]
    have new : h.objs.size ∉ p.W S := fun m => Nat.lt_irrefl _ (st.low (Heap.lt_size hS) _ m)
    refine codeAny_builtin PySem.F.entry_extend_loop ?_; rw [Around.under_plainId PySem.F.plain_extend_loop _]
    show wpAny _ A.in1 (pyNext (.ref p.z) >>= _) _ _ _
    refine wpAny_bind (zt_next (s := { s with heap := h, toks := tk }) st O new hx hy fun h' st' pr e => ?_)
    dsimp only at pr e ⊢
    have hS' := e _ _ mS hS
    have up : ∀ b o, b ≠ S → h'.get? b = some o → (h'.update S (Obj.mapSeq (·.push (Value.ref h.objs.size)))).get? b = some o := fun b o hb q => (Heap.get?_update_other _ _ (Ne.symm hb)).trans q
    have bS : ∀ b, b ∉ p.W S → b ≠ S := fun b hb q => hb (by rw [q]; exact List.mem_cons_self)
    show wpAny _ A.in1 (updateSeq S (·.push (Value.ref h.objs.size)) >>= _) _ _ _
    refine wpAny_bind (wpAny_updateSeq hS' rfl (wpAny_pure ⟨plainId_quiet PySem.F.plain_extend_loop _, ih (i + 1) _ tk _ (acc.push (Value.ref h.objs.size)) (as ++ [h.objs.size]) (by omega) lt (st'.keep O up)
      (fun b o hb q => up b o (bS b hb) (e b o (mW b hb) (keep b o hb q))) (Heap.get?_update_self _ hS' rfl) (by rw [Array.toList_push, ha, List.map_append]; rfl) (by rw [List.length_append, al]; rfl) ⟨fun a ma => ?_, fun a ma => ?_, ?_, fun j a hj => ?_⟩⟩) (by rw [as_]; omega) (by show (acc.push (Value.ref h.objs.size)).size ≤ sizeLine + 1; rw [Array.size_push, as_]; omega))
    · rcases List.mem_append.mp ma with ma | ma
      · exact g.off a ma
      · rw [List.mem_singleton.mp ma]; exact new
    · rcases List.mem_append.mp ma with ma | ma
      · exact g.low a ma
      · rw [List.mem_singleton.mp ma]; exact st.low (Heap.lt_size hS) _ (by unfold ZP.W; simp)
    · rw [List.nodup_append]
      refine ⟨g.nd, by simp, fun a ma b mb e => ?_⟩
      rw [List.mem_singleton.mp mb] at e
      obtain ⟨j, hj⟩ := List.mem_iff_getElem?.mp ma
      obtain ⟨x, y, _, _, e3⟩ := g.pairs j a hj
      exact Nat.lt_irrefl _ (e ▸ Heap.lt_size e3)
    · rcases Nat.lt_trichotomy j as.length with q | q | q
      · rw [List.getElem?_append_left q] at hj
        obtain ⟨x, y, e1, e2, e3⟩ := g.pairs j a hj
        have oa := g.off a (List.mem_of_getElem? hj)
        exact ⟨x, y, e1, e2, up _ _ (bS a oa) (e _ _ (mW a oa) e3)⟩
      · subst q
        have ea : h.objs.size = a := by simpa using hj
        subst ea
        exact ⟨_, _, by rw [al]; exact hx, by rw [al]; exact hy, up _ _ (bS _ new) pr⟩
      · rw [List.getElem?_eq_none (by rw [List.length_append, List.length_singleton]; omega)] at hj
        cases hj
end
end Tq
namespace Tq
open PySem PySem.Spec PyProof.Rows L2
def ZN (T : String) : Prop := T = "zip"
theorem zip_len : typeLookup (.type "zip") "__len__" = pure none := am_miss_of_fast (by first | decide +kernel | rfl)
theorem zip_hint : typeLookup (.type "zip") "__length_hint__" = pure none := am_miss_of_fast (by first | decide +kernel | rfl)
section
variable {prog : Program} {w : World} {A : Around} {E : Value → Shared → Prop} {s : Shared} {p : ZP} {S : Addr} {xs ys : Array Value}
theorem hint_zip {z : Addr} {Q : Bool → Shared → Prop} (ty : s.TypeIs (.ref z) "zip") (h : Q true s) : wpAny (model prog w) A (Builtin.List.listLengthHint (.ref z)) Q E s := by
  unfold Builtin.List.listLengthHint
  refine wpAny_bind (wpAny_specialOf ty zip_len ?_)
  exact wpAny_bind (wpAny_specialOf ty zip_hint (wpAny_pure h))
theorem zt_extend {res : Value} {c0 : Nat} {R : Result → Shared → Prop} (hh : A.handled = none) (O : ZOff p S) (same : xs.size = ys.size) (few : xs.size ≤ sizeLine)
    (st : ZSt p S xs ys 0 s.heap) (hz : IsZip s.heap p.z p.TI p.TO .none) (hS : s.heap.get? S = some { cls := .type "list", data := .seq #[] c0 })
    (hR : ∀ h' tk acc c as, (∀ b o, b ∉ p.W S → s.heap.get? b = some o → h'.get? b = some o) → h'.get? S = some { cls := .type "list", dict := none, data := .seq acc c, slots := #[] } → as.length = xs.size → ZG p S xs ys h' as → acc.toList = as.map Value.ref →
      R (.ok (.ret res)) { s with heap := h', toks := tk }) :
    wpAny (model prog w) A.in1 (Builtin.List.listExtendWith (.ref S) (.ref p.z) res)
      (fun fin s' => match fin with | .done f => R (.ok f) s' | .again c' => c'.quiet = true ∧ codeAny (model prog w) A c' R s') (fun e s' => R (.error e) s') s := by
  have ty : s.TypeIs (.ref p.z) "zip" := ⟨_, hz, rfl⟩
  have bS : ∀ b, b ∉ p.W S → b ≠ S := fun b hb q => hb (by rw [q]; exact List.mem_cons_self)
  have key : ∀ (h : Heap) (c1 tk : Nat), (∀ b o, b ≠ S → s.heap.get? b = some o → h.get? b = some o) → h.get? S = some { cls := .type "list", data := .seq #[] c1 } → codeAny (model prog w) A (.builtin "list.extend.loop" ⟨[.ref S, .ref p.z, res], []⟩) R { s with heap := h, toks := tk } :=
    fun h c1 tk k hS1 => zt_loop (s := s) (h0 := s.heap) hh O same few res hR xs.size 0 h tk c1 #[] [] (Nat.sub_zero _) (Nat.zero_le _) (st.keep O k) (fun b o hb e => k b o (bS b hb) e) hS1 rfl rfl ⟨(fun _ m => nomatch m), (fun _ m => nomatch m), List.nodup_nil, fun j a e => by simp at e⟩
  unfold Builtin.List.listExtendWith
  refine wpAny_bind (wpAny_typeOf (T := "zip") ty ?_)
  have q1 : Builtin.List.listSameRef (.ref S) (.ref p.z) = false := by simp [Builtin.List.listSameRef, O.sz]
  have q2 : (Value.type "zip" == Value.type "list") = false := by decide
  have q3 : (Value.type "zip" == Value.type "tuple") = false := by decide
  simp only [q1, q2, q3, Bool.or_false, Bool.false_eq_true, if_false]
  refine wpAny_bind (wpAny_pyIter_zip hz (wpAny_bind (wpAny_holding (hint_zip ty ?_))))
  refine wpAny_ite_split (fun _ => ?_) (fun _ => wpAny_pure ⟨plainId_quiet PySem.F.plain_extend_loop _, key _ c0 _ (fun b o _ e => e) hS⟩)
  refine wpAny_bind (wpAny_rule (wpAny_bind ?_))
  show wpAny _ _ (updateSeq S (·.push .none) >>= fun _ => updateSeq S (·.pop)) _ _ _
  refine wpAny_bind (wpAny_updateSeq hS rfl ?_)
  have g2 := Heap.get?_update_self (Obj.mapSeq (·.push Value.none)) hS rfl
  refine wpAny_updateSeq (hz := by seq_fits) g2 rfl (wpAny_pure ⟨plainId_quiet PySem.F.plain_extend_loop _, key _ _ _ (fun b o hb e => ?_) (Heap.get?_update_self (Obj.mapSeq (·.pop)) g2 rfl)⟩)
  exact (Heap.get?_update_other _ _ (Ne.symm hb)).trans ((Heap.get?_update_other _ _ (Ne.symm hb)).trans e)
theorem zt_collect {R : List Value → Shared → Prop} (hh : A.handled = none) (D : ZipApart p.z p.TI p.TO p.i1 p.i2 p.l1 p.l2) (same : xs.size = ys.size) (few : xs.size ≤ sizeLine)
    (hz : IsZip s.heap p.z p.TI p.TO .none) (hTI : IsPair s.heap p.TI (.ref p.i1) (.ref p.i2)) (hTO : IsPair s.heap p.TO .none .none) (h1 : s.heap.IsTupleIter p.i1 p.l1 0) (h2 : s.heap.IsTupleIter p.i2 p.l2 0)
    (hl1 : s.heap.IsTuple p.l1 xs) (hl2 : s.heap.IsTuple p.l2 ys)
    (h : ∀ (h' : Heap) (tk : Nat) (as : List Addr), (∀ b o, b ∉ [p.z, p.TO, p.i1, p.i2] → s.heap.get? b = some o → h'.get? b = some o) → as.length = xs.size → (∀ a ∈ as, p.i1 < a) → as.Nodup → (∀ (j : Nat) (a : Addr), as[j]? = some a → ∃ x y, xs[j]? = some x ∧ ys[j]? = some y ∧ IsPair h' a x y) → R (as.map Value.ref) { s with heap := h', toks := tk }) :
    wpAny (model prog w) A (collect (.ref p.z)) R E s := by
  have nS : ∀ b, (∃ o, s.heap.get? b = some o) → s.heap.objs.size ≠ b := fun b ⟨o, e⟩ q => Nat.lt_irrefl _ (q ▸ Heap.lt_size e)
  have O : ZOff p s.heap.objs.size := ⟨D, nS _ ⟨_, hz⟩, nS _ ⟨_, hTI⟩, nS _ ⟨_, hTO⟩, nS _ (h1.imp fun _ x => x.1), nS _ (h2.imp fun _ x => x.1), nS _ (hl1.imp fun _ x => x.1), nS _ (hl2.imp fun _ x => x.1)⟩
  have up : ∀ b o, s.heap.get? b = some o → (s.heap.push { cls := .type "list", data := .seq ([] : List Value).toArray }).get? b = some o := fun b o e => Heap.get?_push_of_some _ e
  unfold collect
  refine wpAny_bind (wpAny_runValue (codeAny_builtin entry_proto_collect' ?_)); rw [Around.under_plainId PySem.F.plain_proto_collect _]
  show wpAny _ A.in1 (newList [] >>= fun l => again (.builtin "list.__iadd__" ⟨[l, .ref p.z], []⟩)) _ _ s
  refine wpAny_bind (wpAny_newObj_type (wpAny_pure ⟨plainId_quiet PySem.F.plain_list_iadd _, codeAny_builtin entry_list_iadd' ?_⟩)); rw [Around.under_plainId PySem.F.plain_list_iadd _]
  have hS1 : (s.heap.push { cls := .type "list", data := .seq ([] : List Value).toArray }).get? s.heap.objs.size = some { cls := .type "list", data := .seq #[] } := Heap.get?_push_size _ rfl
  show wpAny _ A.in1 (Builtin.List.listExtendWith (.ref s.heap.objs.size) (.ref p.z) (.ref s.heap.objs.size)) _ _ _
  have st : ZSt p s.heap.objs.size xs ys 0 (s.heap.push { cls := .type "list", data := .seq ([] : List Value).toArray }) := ⟨h1.at fun o e => up _ _ e, h2.at fun o e => up _ _ e, hl1.at fun o e => up _ _ e, hl2.at fun o e => up _ _ e, up _ _ hTI, ⟨_, up _ _ hTO⟩, .inl ⟨rfl, up _ _ hz, up _ _ hTO⟩⟩
  have key := zt_extend (prog := prog) (w := w) (A := A) (s := { s with heap := s.heap.push { cls := .type "list", data := .seq ([] : List Value).toArray } }) (res := .ref s.heap.objs.size) (c0 := 0)
    (R := fun (q : Result) (s' : Shared) => ∃ (h' : Heap) (tk : Nat) (acc : Array Value) (c : Nat) (as : List Addr), q = .ok (.ret (.ref s.heap.objs.size)) ∧ s' = { s with heap := h', toks := tk } ∧ (∀ b o, b ∉ [p.z, p.TO, p.i1, p.i2] → s.heap.get? b = some o → h'.get? b = some o) ∧
      h'.get? s.heap.objs.size = some { cls := .type "list", dict := none, data := .seq acc c, slots := #[] } ∧ as.length = xs.size ∧ ZG p s.heap.objs.size xs ys h' as ∧ acc.toList = as.map Value.ref)
    hh O same few st (up _ _ hz) hS1 fun h' tk acc c as k1 k2 k3 k4 k5 => ⟨h', tk, acc, c, as, rfl, rfl, fun b o m e => k1 b o (fun q => by
      rcases List.mem_cons.mp q with q | q
      · exact (nS b ⟨_, e⟩) q.symm
      · exact m q) (up _ _ e), k2, k3, k4, k5⟩
  refine wpAny_mono key (fun fin s' x => ?_) fun e s' x => ?_
  · cases fin with
    | done f =>
      obtain ⟨h', tk, acc, c, as, e, rfl, k1, k2, k3, k4, k5⟩ := x
      cases e
      show wpAny _ A (load s.heap.objs.size >>= _) _ _ _
      refine wpAny_bind (wpAny_load k2 (wpAny_pure ?_))
      have := h h' tk as k1 k3 k4.low k4.nd k4.pairs
      rw [← k5] at this
      exact this
    | again c1 =>
      refine ⟨x.1, codeAny_mono x.2 fun q s2 y => ?_⟩
      obtain ⟨h', tk, acc, c, as, rfl, rfl, k1, k2, k3, k4, k5⟩ := y
      show wpAny _ A (load s.heap.objs.size >>= _) _ _ _
      refine wpAny_bind (wpAny_load k2 (wpAny_pure ?_))
      have := h h' tk as k1 k3 k4.low k4.nd k4.pairs
      rw [← k5] at this
      exact this
  · obtain ⟨_, _, _, _, _, e', _⟩ := x
    cases e'
theorem zt_tuple {Q : Value → Shared → Prop} (hh : A.handled = none) (D : ZipApart p.z p.TI p.TO p.i1 p.i2 p.l1 p.l2) (same : xs.size = ys.size) (few : xs.size ≤ sizeLine)
    (hz : IsZip s.heap p.z p.TI p.TO .none) (hTI : IsPair s.heap p.TI (.ref p.i1) (.ref p.i2)) (hTO : IsPair s.heap p.TO .none .none) (h1 : s.heap.IsTupleIter p.i1 p.l1 0) (h2 : s.heap.IsTupleIter p.i2 p.l2 0)
    (hl1 : s.heap.IsTuple p.l1 xs) (hl2 : s.heap.IsTuple p.l2 ys)
    (k : ∀ (h' : Heap) (tk : Nat) (as : List Addr), (∀ b o, b ∉ [p.z, p.TO, p.i1, p.i2] → s.heap.get? b = some o → h'.get? b = some o) → as.length = xs.size → (∀ a ∈ as, p.i1 < a) → as.Nodup → (∀ (j : Nat) (a : Addr), as[j]? = some a → ∃ x y, xs[j]? = some x ∧ ys[j]? = some y ∧ IsPair h' a x y) →
      Q (.ref h'.objs.size) { s with heap := h'.push { cls := .type "tuple", data := .seq (as.map Value.ref).toArray }, toks := tk }) :
    wpAny (model prog w) A (call (.type "tuple") [.ref p.z]) Q E s := by
  obtain ⟨T, eT, ty⟩ : ∃ T : String, ZN T ∧ s.TypeIs (.ref p.z) T := ⟨"zip", rfl, ⟨_, hz, rfl⟩⟩
  refine callType_codes (Q₁ := fun o z => z.TypeIs o "tuple" ∧ Q o z) F.called_tuple (F.typeCall_tuple_1 _) F.entry_object_init (codeAny_of_tree ?_) fun o z hz => ?_
  · show wpAny _ A.in1.in1 (checkBuiltinCall "tuple.__new__" ⟨[.type "tuple", .ref p.z], []⟩ >>= fun _ => again (.builtin "tuple.__new__" ⟨[.type "tuple", .ref p.z], []⟩)) _ _ s
    refine wpAny_bind (wpAny_of_eq (F.newCall_tuple_1 _) (wpAny_pure ⟨plainId_quiet F.plain_tuple_new _, codeAny_builtin F.entry_tuple_new ?_⟩)); rw [Around.under_plainId F.plain_tuple_new _]
    have q1 := sub_tuple_self; have q2 := init_tuple_lookup; have q3 := madeHere_tuple
    wp_walk using wpAny_typeOf ty
    rw [if_neg (by rw [show T = "zip" from eT]; decide)]
    refine wpAny_bind (zt_collect (A := A.in1.in1) hh D same few hz hTI hTO h1 h2 hl1 hl2 fun h' tk as k1 k2 k3 k4 k5 => ?_)
    show wpAny _ _ (Builtin.Tuple.tupleExact (as.map Value.ref).toArray >>= fun v => ret v) _ _ _; unfold Builtin.Tuple.tupleExact
    refine wpAny_bind (wpAny_newObj_type ?_ (by show (as.map Value.ref).toArray.size ≤ sizeLine; simp; omega))
    exact wpAny_pure ⟨⟨_, Heap.get?_push_size _ rfl, rfl⟩, k h' tk as k1 k2 k3 k4 k5⟩
  · exact ⟨hz.1, F.args_object_init_2 o _, object_init_meets F.called_tuple.init.lookup F.called_tuple.made (by decide) prog w A.in1 _ z ⟨hz.1, rfl, hz.2⟩⟩
end
end Tq
namespace Tq
open PySem PySem.Spec PyProof.Rows L2
/-- pairs laid at the places -/
def lay (H : Hp) : List Addr → List (V × V) → Hp
  | a :: as, (x, y) :: r => lay (L2.upd H a (.tup [x, y])) as r
  | _, _ => H
theorem lay_ne {b : Addr} : ∀ {as : List Addr} {r : List (V × V)} {H : Hp}, b ∉ as → lay H as r b = H b
  | [], _, _, _ => rfl
  | _ :: _, [], _, _ => rfl
  | a :: as, (x, y) :: r, H, h => by
    show lay (L2.upd H a (.tup [x, y])) as r b = _
    rw [lay_ne (fun m => h (List.mem_cons_of_mem _ m)), upd_ne (fun e => h (by rw [e]; exact List.mem_cons_self))]
theorem lay_same {as : List Addr} {r : List (V × V)} {H : Hp} (n : ∀ a ∈ as, H a = none) : Same H (lay H as r) := fun b o e => by
  rw [lay_ne fun m => by rw [n b m] at e; cases e]
  exact e
theorem lay_at : ∀ {as : List Addr} {r : List (V × V)} {H : Hp} {j : Nat} {a : Addr} {x y : V}, as.Nodup → as[j]? = some a → r[j]? = some (x, y) → lay H as r a = some (.tup [x, y])
  | [], _, _, _, _, _, _, _, e, _ => by simp at e
  | _ :: _, [], _, _, _, _, _, _, _, e => by simp at e
  | b :: as, (u, v) :: r, H, 0, a, x, y, nd, e1, e2 => by
    simp at e1 e2
    obtain ⟨rfl, rfl⟩ := e2
    subst e1
    show lay (L2.upd H b (.tup [u, v])) as r b = _
    rw [lay_ne (List.nodup_cons.mp nd).1]
    exact upd_same
  | b :: as, (u, v) :: r, H, j + 1, a, x, y, nd, e1, e2 => lay_at (as := as) (r := r) (List.nodup_cons.mp nd).2 (by simpa using e1) (by simpa using e2)
section
variable {P : Program} {w : World} {H H2 : Hp} {h h' : Heap} {a : Addr} {o : HO}
/-- one more object that stands is tracked -/
theorem hok_more (x : HOk P w H h) (hn : H a = none) (new : ObjOk P w (L2.upd H a o) h a o) : HOk P w (L2.upd H a o) h := fun b u e => by
  by_cases hb : b = a
  · subst hb
    rw [upd_same] at e
    cases e; exact new
  · rw [upd_ne hb] at e
    have k : ∀ c z, H c = some z → (L2.upd H a o) c = some z := fun c z q => by rw [upd_ne (ne_of_none q hn)]; exact q
    exact (x b u e).stay (fun c v _ q => q) (fun c q => k c _ q) fun c xs q => k c _ q
theorem hok_lay : ∀ {as : List Addr} {r : List (V × V)} {H : Hp}, HOk P w H h → as.Nodup → (∀ a ∈ as, H a = none) → (∀ (j : Nat) (a : Addr) (x y : V), as[j]? = some a → r[j]? = some (x, y) → ∃ u v, RelV x u ∧ RelV y v ∧ IsPair h a u v) → HOk P w (lay H as r) h
  | [], _, _, x, _, _, _ => x
  | _ :: _, [], _, x, _, _, _ => x
  | a :: as, (p, q) :: r, H, x, nd, n, f => by
    obtain ⟨u, v, ru, rv, e⟩ := f 0 a p q rfl rfl
    have new : ObjOk P w (L2.upd H a (.tup [p, q])) h a (.tup [p, q]) := ⟨(by show 2 ≤ sizeLine; decide), [u, v], .cons ru (.cons rv .nil), _, e, rfl, _, rfl⟩
    refine hok_lay (as := as) (r := r) (hok_more x (n a List.mem_cons_self) new) (List.nodup_cons.mp nd).2 (fun b mb => ?_) fun j b x y e1 e2 => f (j + 1) b x y (by simpa using e1) (by simpa using e2)
    rw [upd_ne (fun e => (List.nodup_cons.mp nd).1 (by rw [← e]; exact mb))]
    exact n b (List.mem_cons_of_mem _ mb)
theorem un_more {fs ex : List Addr} (k : ∀ b u, h.get? b = some u → h'.get? b = some u) (old : ∀ b, b < h.objs.size → H2 b = H b) (same : Same H H2) : Un fs ex H H2 h h' where
  keep := fun b u q _ _ _ => k b u q
  slot := fun b u q _ _ _ => ⟨u.slots, k b u q⟩
  free := fun b u q n _ => by rw [old b (Heap.lt_size q)]; exact n
  there := fun b u q _ => ⟨u, k b u q⟩
  tups := fun b xs q => same _ _ q
  frzs := fun b u xs q => same _ _ q
  tbls := fun b ps q => ⟨#[], by rw [same _ _ q]; simp⟩
end
theorem vals_refs : ∀ as : List Addr, Vals (as.map V.ref) (as.map Value.ref)
  | [] => .nil
  | _ :: r => .cons rfl (vals_refs r)
theorem vals_get : ∀ {xs : List V} {us : List Value} {j : Nat} {x : V} {u : Value}, Vals xs us → xs[j]? = some x → us[j]? = some u → RelV x u
  | _, _, 0, _, _, .cons a _, e1, e2 => by
    simp at e1 e2
    subst e1 e2
    exact a
  | _, _, j + 1, _, _, .cons _ b, e1, e2 => vals_get (j := j) b (by simpa using e1) (by simpa using e2)
  | _, _, _, _, _, .nil, e1, _ => by simp at e1
/-- .., told as O tells it -/
def tTupZipO (O : Addr → List V → HO) (K : PySem.W.Frag) (ta : TA) : TE := fun σ H Q => ta σ H fun vs H1 => ∃ a b xs ys, vs = [.ref a, .ref b] ∧ SqT K H1 a xs ∧ SqT K H1 b ys ∧ xs.length = ys.length ∧
  ∀ (ps : List Addr) (q : Addr), ps.length = xs.length → ps.Nodup → (∀ c ∈ ps, H1 c = none) → H1 q = none → q ∉ ps → Q (.ref q) (upd (lay H1 ps (xs.zip ys)) q (O q (ps.map V.ref)))
theorem pe_tupZipO {O : Addr → List V → HO} (hO : ∀ (P : Program) (w : World) (H : Hp) (h : Heap) (a : Addr) (xs : List V), PlainT h a xs → ObjOk P w H h a (O a xs)) {X : Cx} {e e2 : Expr} {ta : TA} {p0 p1 pos pos0 : Pos} (hcalm : X.calm = true) (hgT : Gl X "tuple") (hmT : X.mg "tuple" = none) (hg : Gl X "zip") (hm : X.mg "zip" = none) (ha : PA X [e, e2] ta)
    (hs : starEach [e, e2] X.env = (false, eval e X.env) :: starEach [e2] X.env := by rfl) (hpl : (backTo pos (starEach [e2] X.env)).any (·.1) = false := by rfl)
    (he : starEach [.Call (.Name "zip" p1) [e, e2] [] pos] X.env = (false, eval (.Call (.Name "zip" p1) [e, e2] [] pos) X.env) :: starEach [] X.env := by rfl) (hpl0 : (backTo pos0 (starEach [] X.env)).any (·.1) = false := by rfl) :
    PE X (.Call (.Name "tuple" p0) [.Call (.Name "zip" p1) [e, e2] [] pos] [] pos0) (tTupZipO O X.K ta) := by
  refine ⟨fun pins s σ H Q I h => ?_⟩
  have hv : bootBuiltins "tuple" = some (.type "tuple") := by decide +kernel
  refine wpAny_Call_Name_kw (ld_blt I hgT hmT hv ?_ (by decide) (by decide))
  refine PyProof.Rows.callWith_type1 ?_ he hpl0
  rw [he]
  show wpAny _ _ (spliced ((false, eval (.Call (.Name "zip" p1) [e, e2] [] pos) X.env) :: backTo pos0 (starEach [] X.env))) _ _ s
  refine Calls.spliced_cons (Call_ (ld_blt I hg hm PyProof.Rows.boot_zip (PyProof.Rows.callWith_type1 (thn (ha.run pos pins s σ H _ I h) fun us s1 ⟨vs, H1, I1, r1, q1⟩ => ?_) hs hpl)))
  obtain ⟨a, b, xs, ys, ex, hx, hy, same, q⟩ := q1
  subst ex
  obtain ⟨u1, u2, eu, ru1, ru2⟩ := vals2 r1
  subst eu
  cases ru1
  cases ru2
  obtain ⟨its, rv, t1, z1⟩ := I1.tuple hx
  obtain ⟨its2, rv2, t2, z2⟩ := I1.tuple hy
  obtain ⟨o1, ho1, _⟩ := id t1
  obtain ⟨o2, ho2, _⟩ := id t2
  have l1 := rv.length
  have l2 := rv2.length
  have st1 : s1.heap.IsTuple a its.toArray := t1
  have st2 : s1.heap.IsTuple b its2.toArray := t2
  refine RZ.call_zipT st1 st2 fun h' hz hTI hTO h1 h2 hsz hk => Calls.spliced_nil ?_
  refine zt_tuple (p := ⟨s1.heap.objs.size + 4, s1.heap.objs.size + 2, s1.heap.objs.size + 3, s1.heap.objs.size, s1.heap.objs.size + 1, a, b⟩) (xs := its.toArray) (ys := its2.toArray) (s := { s1 with heap := h' }) (I.ok.hd hcalm)
    (PySem.W.ktu_apart s1.heap.objs.size a b (Heap.lt_size ho1) (Heap.lt_size ho2)) (by simp; omega) (by simp; omega) hz hTI hTO h1 h2 (st1.at fun o e => hk _ o e) (st2.at fun o e => hk _ o e) fun g tk as k1 k2 k3 k4 k5 => ?_
  have low : ∀ c ∈ as, s1.heap.objs.size < c := k3
  have old : ∀ c o, s1.heap.get? c = some o → g.get? c = some o := fun c o e => k1 c o (fun m => by
    have lt := Heap.lt_size e
    simp only [List.mem_cons, List.not_mem_nil, or_false] at m
    rcases m with m | m | m | m
    · rw [m] at lt; exact absurd lt (Nat.not_lt.mpr (Nat.le_add_right _ _))
    · rw [m] at lt; exact absurd lt (Nat.not_lt.mpr (Nat.le_add_right _ _))
    · rw [m] at lt; exact Nat.lt_irrefl _ lt
    · rw [m] at lt; exact absurd lt (Nat.not_lt.mpr (Nat.le_add_right _ _))) (hk c o e)
  have la : as.length = its.length := by rw [k2]; simp
  have fr : ∀ c ∈ as, H1 c = none := fun c m => I1.hok.fresh (Nat.le_of_lt (low c m))
  have I2 : Inv X pins σ (lay H1 as (xs.zip ys)) { s1 with heap := g, toks := tk } := by
    refine I1.un (un_more old (fun b hb => lay_ne fun m => Nat.lt_irrefl _ (Nat.lt_trans hb (low b m))) (lay_same fr)) (hok_lay (I1.hok.kept old) k4 fr fun j c x y e1 e2 => ?_)
    obtain ⟨u, v, e3, e4, e5⟩ := k5 j c e1
    obtain ⟨f1, f2⟩ := List.getElem?_zip_eq_some.mp e2
    exact ⟨u, v, vals_get rv f1 (by simpa using e3), vals_get rv2 f2 (by simpa using e4), e5⟩
  have hq : (lay H1 as (xs.zip ys)) g.objs.size = none := I2.hok.fresh (Nat.le_refl _)
  have I3 : Inv X pins σ (L2.upd (lay H1 as (xs.zip ys)) g.objs.size (O g.objs.size (as.map V.ref))) { s1 with heap := g.push { cls := .type "tuple", data := .seq (as.map Value.ref).toArray }, toks := tk } :=
    I2.laid (t' := tk) (fun b o e => Heap.get?_push_of_some _ e) (Nat.le_refl _) (hO _ _ _ _ _ _ ⟨by rw [List.length_map]; omega, as.map Value.ref, vals_refs as, 0, Heap.get?_push_size _ rfl⟩)
  have off : g.objs.size ∉ as := fun m => by
    obtain ⟨j, hj⟩ := List.mem_iff_getElem?.mp m
    obtain ⟨x, y, _, _, e5⟩ := k5 j _ hj
    exact Nat.lt_irrefl _ (Heap.lt_size e5)
  exact ⟨.ref g.objs.size, _, I3, rfl, q as g.objs.size (by rw [la, ← l1]) k4 fr ((lay_ne (r := xs.zip ys) (H := H1) off).symm.trans hq) off⟩
/-- tuple(zip(a, b)) of two tuples of one length -/
def tTupZip (K : PySem.W.Frag) (ta : TA) : TE := fun σ H Q => ta σ H fun vs H1 => ∃ a b xs ys, vs = [.ref a, .ref b] ∧ SqT K H1 a xs ∧ SqT K H1 b ys ∧ xs.length = ys.length ∧
  ∀ (ps : List Addr) (q : Addr), ps.length = xs.length → ps.Nodup → (∀ c ∈ ps, H1 c = none) → H1 q = none → q ∉ ps → Q (.ref q) (upd (lay H1 ps (xs.zip ys)) q (TPO q (ps.map V.ref)))
theorem pe_tupZip {X : Cx} {e e2 : Expr} {ta : TA} {p0 p1 pos pos0 : Pos} (hcalm : X.calm = true) (hgT : Gl X "tuple") (hmT : X.mg "tuple" = none) (hg : Gl X "zip") (hm : X.mg "zip" = none) (ha : PA X [e, e2] ta)
    (hs : starEach [e, e2] X.env = (false, eval e X.env) :: starEach [e2] X.env := by rfl) (hpl : (backTo pos (starEach [e2] X.env)).any (·.1) = false := by rfl)
    (he : starEach [.Call (.Name "zip" p1) [e, e2] [] pos] X.env = (false, eval (.Call (.Name "zip" p1) [e, e2] [] pos) X.env) :: starEach [] X.env := by rfl) (hpl0 : (backTo pos0 (starEach [] X.env)).any (·.1) = false := by rfl) :
    PE X (.Call (.Name "tuple" p0) [.Call (.Name "zip" p1) [e, e2] [] pos] [] pos0) (tTupZip X.K ta) :=
  pe_tupZipO (O := TPO) (fun _ _ _ _ _ _ T => tpo_new T) hcalm hgT hmT hg hm ha hs hpl he hpl0
end Tq
namespace Tq
open PySem PySem.Spec PyProof.Rows L2
/-! ### canonical forms [24] -/
theorem look_none {prs : List (Str × Str)} {z : Str} (h : ∀ q ∈ prs, z ≠ q.1) : look prs z = none := by
  unfold look
  suffices g : ∀ (prs : List (Str × Str)) (o : Option Str), (∀ q ∈ prs, z ≠ q.1) → prs.foldl (fun o p => if z = p.1 then some p.2 else o) o = o from g prs none h
  intro prs
  induction prs with
  | nil => intro o _; rfl
  | cons q r ih =>
    intro o h
    rw [List.foldl_cons, if_neg (h q List.mem_cons_self)]
    exact ih o fun x m => h x (List.mem_cons_of_mem _ m)
theorem look_snoc (prs : List (Str × Str)) (q : Str × Str) (z : Str) : look (prs ++ [q]) z = if z = q.1 then some q.2 else look prs z := by
  unfold look
  rw [List.foldl_append]; rfl
theorem look_of {z t : Str} : ∀ {prs : List (Str × Str)}, (prs.map (·.1)).Nodup → (z, t) ∈ prs → look prs z = some t := by
  intro prs
  suffices g : ∀ (prs : List (Str × Str)) (o : Option Str), (prs.map (·.1)).Nodup → (z, t) ∈ prs → prs.foldl (fun o p => if z = p.1 then some p.2 else o) o = some t from g prs none
  clear prs
  intro prs
  induction prs with
  | nil => intro o _ m; cases m
  | cons q r ih =>
    intro o nd m
    rw [List.foldl_cons]
    rw [List.map_cons, List.nodup_cons] at nd
    rcases List.mem_cons.mp m with e | m
    · subst e
      have n : ∀ x ∈ r, z ≠ x.1 := fun x hx e => nd.1 (e ▸ List.mem_map.mpr ⟨x, hx, rfl⟩)
      have k : ∀ (r : List (Str × Str)) (o : Option Str), (∀ q ∈ r, z ≠ q.1) → r.foldl (fun o p => if z = p.1 then some p.2 else o) o = o := by
        intro r
        induction r with
        | nil => intro o _; rfl
        | cons q r ih =>
          intro o h
          rw [List.foldl_cons, if_neg (h q List.mem_cons_self)]
          exact ih o fun x m => h x (List.mem_cons_of_mem _ m)
      rw [if_pos rfl]
      exact k r _ n
    · exact ih _ nd.2 m
def sb (f : Str → Option Str) (z : Str) : Str := (f z).getD z
theorem rowT_sub (f : Str → Option Str) (r : CRow) : rowT (rowSub f r) = (rowT r).map (sb f) := by
  cases r with
  | none => rfl
  | some cs =>
    show (cs.map (Cel.sub f)).filterMap Cel.txt? = (cs.filterMap Cel.txt?).map (sb f)
    induction cs with
    | nil => rfl
    | cons c r ih =>
      rw [List.map_cons]
      cases c with
      | null => exact ih
      | val n => exact ih
      | txt z =>
        show sb f z :: (r.map (Cel.sub f)).filterMap Cel.txt? = sb f z :: (r.filterMap Cel.txt?).map (sb f)
        rw [ih]
theorem recT_sub (f : Str → Option Str) (R : List CRow) : recT (recSub f R) = (recT R).map (sb f) := by
  unfold recT recSub
  induction R with
  | nil => rfl
  | cons r R ih => rw [List.map_cons, List.flatMap_cons, List.flatMap_cons, List.map_append, ih, rowT_sub]
theorem recSub_comp {f1 f2 f3 : Str → Option Str} {R : List CRow} (h : ∀ z ∈ recT R, sb f2 (sb f1 z) = sb f3 z) : recSub f2 (recSub f1 R) = recSub f3 R := by
  unfold recSub
  rw [List.map_map]
  refine List.map_congr_left fun r hr => ?_
  cases r with
  | none => rfl
  | some cs =>
    show some ((cs.map (Cel.sub f1)).map (Cel.sub f2)) = some (cs.map (Cel.sub f3))
    rw [List.map_map]
    congr 1
    refine List.map_congr_left fun c hc => ?_
    cases c with
    | txt z => exact congrArg Cel.txt (h z (List.mem_flatMap.mpr ⟨_, hr, List.mem_filterMap.mpr ⟨_, hc, rfl⟩⟩))
    | _ => rfl
theorem tfold_map {fx : List Str} {g : Str → Str} {A : List Str} (inj : ∀ a ∈ A, ∀ b ∈ A, g a = g b → a = b) : ∀ (zs acc : List Str), (∀ z ∈ zs, (z ∈ fx ∧ g z ∈ fx) ∨ (z ∉ fx ∧ g z ∉ fx ∧ z ∈ A)) → (∀ z ∈ acc, z ∈ A) →
    (zs.map g).foldl (tstep fx) (acc.map g) = (zs.foldl (tstep fx) acc).map g
  | [], _, _, _ => rfl
  | z :: zs, acc, h, ha => by
    rw [List.map_cons, List.foldl_cons, List.foldl_cons]
    have st : tstep fx (acc.map g) (g z) = (tstep fx acc z).map g ∧ ∀ y ∈ tstep fx acc z, y ∈ A := by
      rcases h z List.mem_cons_self with ⟨a, b⟩ | ⟨a, b, c⟩
      · unfold tstep
        rw [if_pos a, if_pos b]
        exact ⟨rfl, ha⟩
      · unfold tstep step1
        rw [if_neg a, if_neg b]
        by_cases m : z ∈ acc
        · rw [if_pos m, if_pos (List.mem_map.mpr ⟨z, m, rfl⟩)]
          exact ⟨rfl, ha⟩
        · rw [if_neg m, if_neg (fun q => by
            obtain ⟨y, hy, e⟩ := List.mem_map.mp q
            exact m (inj y (ha y hy) z c e ▸ hy)), List.map_append]
          refine ⟨rfl, fun y hy => ?_⟩
          rcases List.mem_append.mp hy with hy | hy
          · exact ha y hy
          · rw [List.mem_singleton.mp hy]; exact c
    rw [st.1]
    exact tfold_map inj zs _ (fun y m => h y (List.mem_cons_of_mem _ m)) st.2
/-- the canonical form -/
def canon (fx : List Str) (R : List CRow) : List CRow := recSub (look ((freeT fx R).zip (firstN "v" (freeT fx R).length fx))) R
section
variable {fx : List Str} {R : List CRow} {T : List Str}
theorem sb_old {F : List Str} {z : Str} (h : z ∉ F) : sb (look (F.zip T)) z = z := by
  unfold sb
  rw [look_none fun q hq (e : z = q.1) => h (by rw [e]; exact (List.of_mem_zip (a := q.1) (b := q.2) hq).1)]; rfl
theorem sb_new {F : List Str} (nd : F.Nodup) (l : F.length ≤ T.length) {i : Nat} {z t : Str} (h1 : F[i]? = some z) (h2 : T[i]? = some t) : sb (look (F.zip T)) z = t := by
  unfold sb
  have m : (z, t) ∈ F.zip T := List.mem_of_getElem? (List.getElem?_zip_eq_some.mpr ⟨h1, h2⟩)
  have e : (F.zip T).map (·.1) = F := List.map_fst_zip l
  rw [look_of (by rw [e]; exact nd) m]; rfl
theorem canon_sub (nd : T.Nodup) (l : T.length = (freeT fx R).length) (off : ∀ t ∈ T, t ∉ fx) : freeT fx (recSub (look ((freeT fx R).zip T)) R) = T ∧ canon fx (recSub (look ((freeT fx R).zip T)) R) = canon fx R := by
  have ndF := freeT_nd fx R
  have at_ : ∀ z ∈ freeT fx R, ∃ i t, (freeT fx R)[i]? = some z ∧ T[i]? = some t ∧ sb (look ((freeT fx R).zip T)) z = t := fun z hz => by
    obtain ⟨i, hi⟩ := List.mem_iff_getElem?.mp hz
    have il := (List.getElem?_eq_some_iff.mp hi).1
    exact ⟨i, T[i], hi, List.getElem?_eq_getElem (by omega), sb_new ndF (by omega) hi (List.getElem?_eq_getElem (by omega))⟩
  have fr : freeT fx (recSub (look ((freeT fx R).zip T)) R) = T := by
    rw [freeT_eq, recT_sub]
    have k := tfold_map (fx := fx) (g := sb (look ((freeT fx R).zip T))) (A := freeT fx R) (fun a ha b hb e => by
      obtain ⟨i, t, h1, h2, h3⟩ := at_ a ha
      obtain ⟨j, u, g1, g2, g3⟩ := at_ b hb
      rw [h3, g3] at e
      subst e
      have ij : i = j := (List.getElem?_inj (List.getElem?_eq_some_iff.mp h2).1 nd).mp (h2.trans g2.symm)
      subst ij
      exact Option.some.inj (h1.symm.trans g1)) (recT R) [] (fun z hz => by
      by_cases m : z ∈ fx
      · exact .inl ⟨m, by rw [sb_old (fun q => (freeT_mem.mp q).2 m)]; exact m⟩
      · have zf : z ∈ freeT fx R := freeT_mem.mpr ⟨hz, m⟩
        obtain ⟨i, t, h1, h2, h3⟩ := at_ z zf
        exact .inr ⟨m, by rw [h3]; exact off t (List.mem_of_getElem? h2), zf⟩) (fun z m => nomatch m)
    have k2 : ((recT R).map (sb (look ((freeT fx R).zip T)))).foldl (tstep fx) [] = (freeT fx R).map (sb (look ((freeT fx R).zip T))) := by
      rw [freeT_eq] at k ⊢
      exact k
    rw [k2]
    refine List.ext_getElem? fun i => ?_
    rw [List.getElem?_map]
    by_cases il : i < (freeT fx R).length
    · rw [List.getElem?_eq_getElem il]
      have e2 : T[i]? = some T[i] := List.getElem?_eq_getElem (by omega)
      rw [e2]
      exact congrArg some (sb_new ndF (by omega) (List.getElem?_eq_getElem il) e2)
    · rw [List.getElem?_eq_none (by omega), List.getElem?_eq_none (by omega)]; rfl
  refine ⟨fr, ?_⟩
  unfold canon
  rw [fr, l]
  refine recSub_comp fun z hz => ?_
  by_cases m : z ∈ freeT fx R
  · obtain ⟨i, t, h1, h2, h3⟩ := at_ z m
    have il := (List.getElem?_eq_some_iff.mp h1).1
    have sl := firstN_len "v" (freeT fx R).length fx
    have e2 : (firstN "v" (freeT fx R).length fx)[i]? = some ((firstN "v" (freeT fx R).length fx)[i]'(by omega)) := List.getElem?_eq_getElem (by omega)
    rw [h3, sb_new nd (by omega) h2 e2, sb_new ndF (by omega) h1 e2]
  · rw [sb_old m, sb_old m]
    refine sb_old fun q => ?_
    have zx : z ∈ fx := by
      by_cases c : z ∈ fx
      · exact c
      · exact absurd (freeT_mem.mpr ⟨hz, c⟩) m
    exact off z q zx
end
end Tq
namespace Tq
open PySem PySem.Spec PyProof.Rows L2
theorem paired_of {α β : Type} {F : α → β → Prop} : ∀ {l1 : List α} {l2 : List β}, l1.length = l2.length → (∀ (i : Nat) a b, l1[i]? = some a → l2[i]? = some b → F a b) → Paired F l1 l2
  | [], [], _, _ => .nil
  | [], _ :: _, e, _ => by cases e
  | _ :: _, [], e, _ => by cases e
  | a :: l1, b :: l2, e, h => .cons (h 0 a b rfl rfl) (paired_of (by simpa using e) fun i x y e1 e2 => h (i + 1) x y (by simpa using e1) (by simpa using e2))
theorem pairsT_lay {K : PySem.W.Frag} {H : Hp} {ps : List Addr} {F S : List Str} (nd : ps.Nodup) (l : ps.length = F.length) (l2 : F.length = S.length) : PairsT K (lay H ps ((F.map V.str).zip (S.map V.str))) ps (F.zip S) := by
  unfold PairsT
  refine paired_of (by rw [List.length_map, List.length_zip]; omega) fun i a b e1 e2 => ?_
  rw [List.getElem?_map] at e2
  obtain ⟨q, hq, rfl⟩ := Option.map_eq_some_iff.mp e2
  obtain ⟨f1, f2⟩ := List.getElem?_zip_eq_some.mp (show (F.zip S)[i]? = some (q.1, q.2) from hq)
  refine sqT (lay_at nd e1 (x := .str q.1) (y := .str q.2) (List.getElem?_zip_eq_some.mpr ⟨?_, ?_⟩))
  · rw [List.getElem?_map, f1]; rfl
  · rw [List.getElem?_map, f2]; rfl
theorem l_tz0 {K : PySem.W.Frag} {σ : L2.St} {H : Hp} {Q : VK} {ta : TA} (q : ta σ H fun vs H1 => ∃ a b xs ys, vs = [.ref a, .ref b] ∧ SqT K H1 a xs ∧ SqT K H1 b ys ∧ xs.length = ys.length ∧
  ∀ (ps : List Addr) (q : Addr), ps.length = xs.length → ps.Nodup → (∀ c ∈ ps, H1 c = none) → H1 q = none → q ∉ ps → Q (.ref q) (upd (lay H1 ps (xs.zip ys)) q (TPO q (ps.map V.ref)))) : tTupZip K ta σ H Q := q
theorem k_tupZip {X : Cx} {K : PySem.W.Frag} (h : X.K = K) {e e2 : Expr} {ta : TA} {p0 p1 pos pos0 : Pos} (hcalm : X.calm = true) (hgT : Gl X "tuple") (hmT : X.mg "tuple" = none) (hg : Gl X "zip") (hm : X.mg "zip" = none) (ha : PA X [e, e2] ta)
    (hs : starEach [e, e2] X.env = (false, eval e X.env) :: starEach [e2] X.env := by rfl) (hpl : (backTo pos (starEach [e2] X.env)).any (·.1) = false := by rfl)
    (he : starEach [.Call (.Name "zip" p1) [e, e2] [] pos] X.env = (false, eval (.Call (.Name "zip" p1) [e, e2] [] pos) X.env) :: starEach [] X.env := by rfl) (hpl0 : (backTo pos0 (starEach [] X.env)).any (·.1) = false := by rfl) :
    PE X (.Call (.Name "tuple" p0) [.Call (.Name "zip" p1) [e, e2] [] pos] [] pos0) (tTupZip K ta) := h ▸ pe_tupZip hcalm hgT hmT hg hm ha hs hpl he hpl0
theorem canon_ok {fx : List Str} {R : List CRow} (h : RecOk R) : RecOk (canon fx R) := recSub_ok h fun z y e => look_ok (p := fun y => PyData.strOk y = true) (fun q hq => by
  obtain ⟨k, e, _⟩ := firstN_ok q.2 (List.of_mem_zip (a := q.1) (b := q.2) hq).2
  rw [e]
  exact strOk_nm (by decide +kernel) k) e
end Tq
namespace Tq
open PySem PySem.Spec PyProof.Rows L2
theorem firstN_nd (z : Str) (m : Nat) (xs : List Str) : (firstN z m xs).Nodup := by
  unfold firstN named
  refine List.Nodup.sublist (List.take_sublist _ _) (List.Pairwise.filter _ ?_)
  exact List.Pairwise.map _ (fun a b (h : a ≠ b) e => h (nm_inj e)) (List.nodup_range' (s := 1))
theorem firstN_off {z : Str} {m : Nat} {xs : List Str} : ∀ t ∈ firstN z m xs, t ∉ xs := fun t ht => by
  have h := (List.mem_filter.mp (List.mem_of_mem_take ht)).2
  simpa using h
theorem canon_twice (fx : List Str) (R : List CRow) : canon fx (canon fx R) = canon fx R :=
  (canon_sub (fx := fx) (R := R) (firstN_nd "v" (freeT fx R).length fx) (firstN_len "v" (freeT fx R).length fx) firstN_off).2
theorem GoodR.mono {zs us : List Str} {R : List CRow} (h : GoodR zs R) (s : ∀ z ∈ zs, z ∈ us) : GoodR us R := fun r hr c hc => by
  have g := h r hr c hc
  cases c with
  | null => trivial
  | txt z => exact s z g
  | val n => exact g
theorem celN_canon (fx : List Str) (R : List CRow) : celN (canon fx R) = celN R := celN_sub _ R
theorem canon_len (fx : List Str) (R : List CRow) : (canon fx R).length = R.length := rsub_len _ R
end Tq
namespace Tq
open PySem PySem.Spec PyProof.Rows L2
/-! ### == of any two records -/
instance celDec : DecidableEq Cel := fun a b => by
  cases a with
  | null => cases b with
    | null => exact isTrue rfl
    | txt y => exact isFalse (fun e => nomatch e)
    | val y => exact isFalse (fun e => nomatch e)
  | txt x => cases b with
    | null => exact isFalse (fun e => nomatch e)
    | txt y => exact (if h : x = y then isTrue (congrArg Cel.txt h) else isFalse fun e => h (Cel.txt.inj e))
    | val y => exact isFalse (fun e => nomatch e)
  | val x => cases b with
    | null => exact isFalse (fun e => nomatch e)
    | txt y => exact isFalse (fun e => nomatch e)
    | val y => exact (if h : x = y then isTrue (congrArg Cel.val h) else isFalse fun e => h (Cel.val.inj e))
theorem eqvAll_map {α : Type} [DecidableEq α] {f : α → PyData} (h : ∀ a b, PyData.eqv (f a) (f b) = decide (a = b)) : ∀ l r : List α, PyData.eqvAll (l.map f) (r.map f) = decide (l = r)
  | [], [] => by simp [PyData.eqvAll]
  | [], b :: r => by simp [PyData.eqvAll]
  | a :: l, [] => by simp [PyData.eqvAll]
  | a :: l, b :: r => by
    rw [List.map_cons, List.map_cons, PyData.eqvAll, h a b, eqvAll_map h l r]
    by_cases e : a = b <;> simp [e]
theorem eqv_cel : ∀ a b : Cel, PyData.eqv a.d b.d = decide (a = b)
  | .null, .null => by simp [Cel.d, PyData.eqv]
  | .null, .txt z => by simp [Cel.d, PyData.eqv]
  | .null, .val n => by simp [Cel.d, PyData.eqv]
  | .txt z, .null => by simp [Cel.d, PyData.eqv]
  | .txt z, .txt y => by
    have e : (z == y) = decide (z = y) := rfl
    simp [Cel.d, PyData.eqv, e]
  | .txt z, .val n => by simp [Cel.d, PyData.eqv]
  | .val n, .null => by simp [Cel.d, PyData.eqv]
  | .val n, .txt z => by simp [Cel.d, PyData.eqv]
  | .val n, .val m => by
    have e : (n == m) = decide (n = m) := rfl
    simp [Cel.d, PyData.eqv, PyData.eqvAll, e]
theorem eqv_row : ∀ a b : CRow, PyData.eqv (rowD a) (rowD b) = decide (a = b)
  | none, none => by simp [rowD, PyData.eqv]
  | none, some cs => by simp [rowD, PyData.eqv]
  | some cs, none => by simp [rowD, PyData.eqv]
  | some cs, some ds => by
    show PyData.eqvAll (cs.map Cel.d) (ds.map Cel.d) = _
    rw [eqvAll_map eqv_cel]
    simp
theorem eqv_rec (R S : List CRow) : PyData.eqv (recD R) (recD S) = decide (R = S) := eqvAll_map eqv_row R S
section
variable {K : PySem.W.Frag} {H : Hp} {Q : VK} {x y : V} {R S : List CRow}
theorem l_neR (o1 : RecOk R) (o2 : RecOk S) (h1 : Dp K H x (recD R)) (h2 : Dp K H y (recD S)) (q : Q (.bl (!decide (R = S))) H) : rNeD K x y H Q := ⟨_, _, h1, h2, rec_shaped o1, rec_shaped o2, by rw [eqv_rec]; exact q⟩
theorem l_eqR (o1 : RecOk R) (o2 : RecOk S) (h1 : Dp K H x (recD R)) (h2 : Dp K H y (recD S)) (q : Q (.bl (decide (R = S))) H) : rEqD K x y H Q := ⟨_, _, h1, h2, rec_shaped o1, rec_shaped o2, by rw [eqv_rec]; exact q⟩
end
/-! ### pairs of corresponding texts [22] -/
/-- what the walk over two cells makes of the pairs so far; none: no such renaming -/
def mcell (fx : List Str) (acc : List (Str × Str)) : Cel → Cel → Option (List (Str × Str))
  | .txt z, .txt y => if z ∈ fx ∨ y ∈ fx then (if z = y then some acc else none)
      else if (∀ q ∈ acc, (q.1 = z ↔ q.2 = y)) then some (if (z, y) ∈ acc then acc else acc ++ [(z, y)]) else none
  | a, b => if a = b then some acc else none
end Tq
namespace Tq
open PySem PySem.Spec PyProof.Rows L2
theorem k_tupZipT {X : Cx} {K : PySem.W.Frag} (h : X.K = K) {e e2 : Expr} {ta : TA} {p0 p1 pos pos0 : Pos} (hcalm : X.calm = true) (hgT : Gl X "tuple") (hmT : X.mg "tuple" = none) (hg : Gl X "zip") (hm : X.mg "zip" = none) (ha : PA X [e, e2] ta)
    (hs : starEach [e, e2] X.env = (false, eval e X.env) :: starEach [e2] X.env := by rfl) (hpl : (backTo pos (starEach [e2] X.env)).any (·.1) = false := by rfl)
    (he : starEach [.Call (.Name "zip" p1) [e, e2] [] pos] X.env = (false, eval (.Call (.Name "zip" p1) [e, e2] [] pos) X.env) :: starEach [] X.env := by rfl) (hpl0 : (backTo pos0 (starEach [] X.env)).any (·.1) = false := by rfl) :
    PE X (.Call (.Name "tuple" p0) [.Call (.Name "zip" p1) [e, e2] [] pos] [] pos0) (tTupZipO (fun _ xs => .tup xs) K ta) :=
  h ▸ pe_tupZipO (O := fun _ xs => .tup xs) (fun _ _ _ _ _ _ ⟨z, its, r, n, e⟩ => ⟨z, its, r, _, e, rfl, _, rfl⟩) hcalm hgT hmT hg hm ha hs hpl he hpl0
theorem l_tzT {O : Addr → List V → HO} {K : PySem.W.Frag} {σ : L2.St} {H : Hp} {Q : VK} {ta : TA} (q : ta σ H fun vs H1 => ∃ a b xs ys, vs = [.ref a, .ref b] ∧ SqT K H1 a xs ∧ SqT K H1 b ys ∧ xs.length = ys.length ∧
  ∀ (ps : List Addr) (q : Addr), ps.length = xs.length → ps.Nodup → (∀ c ∈ ps, H1 c = none) → H1 q = none → q ∉ ps → Q (.ref q) (upd (lay H1 ps (xs.zip ys)) q (O q (ps.map V.ref)))) : tTupZipO O K ta σ H Q := q
theorem canon_free (fx : List Str) (R : List CRow) : freeT fx (canon fx R) = firstN "v" (freeT fx R).length fx :=
  (canon_sub (fx := fx) (R := R) (firstN_nd "v" (freeT fx R).length fx) (firstN_len "v" (freeT fx R).length fx) firstN_off).1
theorem canon_lens {fx : List Str} {R S : List CRow} (h : canon fx R = canon fx S) : (freeT fx R).length = (freeT fx S).length := by
  have a := congrArg List.length (canon_free fx R)
  have b := congrArg List.length (canon_free fx S)
  rw [firstN_len] at a b
  rw [h] at a
  omega
end Tq
namespace Tq
open PySem PySem.Spec PyProof.Rows L2
/-- pairs that are one to one, without constants -/
structure MInv (fx : List Str) (acc : List (Str × Str)) : Prop where
  nd1 : (acc.map (·.1)).Nodup
  nd2 : (acc.map (·.2)).Nodup
  off1 : ∀ q ∈ acc, q.1 ∉ fx
  off2 : ∀ q ∈ acc, q.2 ∉ fx
theorem MInv.nil (fx : List Str) : MInv fx [] := ⟨List.nodup_nil, List.nodup_nil, fun _ m => (nomatch m), fun _ m => (nomatch m)⟩
theorem MInv.look {fx : List Str} {acc : List (Str × Str)} (h : MInv fx acc) {q : Str × Str} (m : q ∈ acc) : look acc q.1 = some q.2 := look_of h.nd1 m
theorem look_fx {fx : List Str} {acc : List (Str × Str)} (h : MInv fx acc) {z : Str} (m : z ∈ fx) : Tq.look acc z = none := look_none fun q hq e => h.off1 q hq (by rw [← e]; exact m)
/-- a step with two free texts -/
theorem mstep {fx : List Str} {acc : List (Str × Str)} {z y : Str} (h : MInv fx acc) (hz : z ∉ fx) (hy : y ∉ fx) (c : ∀ q ∈ acc, (q.1 = z ↔ q.2 = y)) :
    MInv fx (if (z, y) ∈ acc then acc else acc ++ [(z, y)]) ∧ (if (z, y) ∈ acc then acc else acc ++ [(z, y)]).map (·.1) = tstep fx (acc.map (·.1)) z ∧ (if (z, y) ∈ acc then acc else acc ++ [(z, y)]).map (·.2) = tstep fx (acc.map (·.2)) y := by
  unfold tstep step1
  rw [if_neg hz, if_neg hy]
  by_cases m : (z, y) ∈ acc
  · rw [if_pos m, if_pos (List.mem_map.mpr ⟨_, m, rfl⟩), if_pos (List.mem_map.mpr ⟨_, m, rfl⟩)]
    exact ⟨h, rfl, rfl⟩
  · have n1 : z ∉ acc.map (·.1) := fun q => by
      obtain ⟨p, hp, e⟩ := List.mem_map.mp q
      have e2 := (c p hp).mp e
      exact m (by rw [← e, ← e2]; exact hp)
    have n2 : y ∉ acc.map (·.2) := fun q => by
      obtain ⟨p, hp, e⟩ := List.mem_map.mp q
      have e2 := (c p hp).mpr e
      exact m (by rw [← e, ← e2]; exact hp)
    rw [if_neg m, if_neg n1, if_neg n2]
    refine ⟨⟨?_, ?_, ?_, ?_⟩, List.map_append .., List.map_append ..⟩
    · rw [List.map_append, List.nodup_append]
      exact ⟨h.nd1, by simp, fun a ha b hb (e : a = b) => n1 (by rw [List.mem_singleton.mp hb] at e; rw [e] at ha; exact ha)⟩
    · rw [List.map_append, List.nodup_append]
      exact ⟨h.nd2, by simp, fun a ha b hb (e : a = b) => n2 (by rw [List.mem_singleton.mp hb] at e; rw [e] at ha; exact ha)⟩
    · intro q hq
      rcases List.mem_append.mp hq with hq | hq
      · exact h.off1 q hq
      · rw [List.mem_singleton.mp hq]; exact hz
    · intro q hq
      rcases List.mem_append.mp hq with hq | hq
      · exact h.off2 q hq
      · rw [List.mem_singleton.mp hq]; exact hy
theorem mcell_ok {fx : List Str} {acc acc' : List (Str × Str)} {a b : Cel} (h : MInv fx acc) (e : mcell fx acc a b = some acc') :
    MInv fx acc' ∧ (∃ r, acc' = acc ++ r) ∧ acc'.map (·.1) = a.ts.foldl (tstep fx) (acc.map (·.1)) ∧ acc'.map (·.2) = b.ts.foldl (tstep fx) (acc.map (·.2)) ∧ b = a.sub (look acc') ∧ ∀ z ∈ a.ts, z ∉ fx → z ∈ acc'.map (·.1) := by
  have same : ∀ x y : Cel, (if x = y then some acc else none) = some acc' → x = y ∧ acc = acc' := fun x y e => by
    split at e
    · rename_i h
      exact ⟨h, Option.some.inj e⟩
    · cases e
  have plain : ∀ x : Cel, x.ts = [] → x.sub (look acc) = x → MInv fx acc ∧ (∃ r, acc = acc ++ r) ∧ acc.map (·.1) = x.ts.foldl (tstep fx) (acc.map (·.1)) ∧ acc.map (·.2) = x.ts.foldl (tstep fx) (acc.map (·.2)) ∧ x = x.sub (look acc) ∧ ∀ z ∈ x.ts, z ∉ fx → z ∈ acc.map (·.1) := fun x hx hs => by
    rw [hx]
    exact ⟨h, ⟨[], (List.append_nil _).symm⟩, rfl, rfl, hs.symm, fun z m => (nomatch m)⟩
  cases a with
  | null =>
    obtain ⟨e1, e2⟩ := same _ _ e
    rw [← e1, ← e2]
    exact plain .null rfl rfl
  | val n =>
    obtain ⟨e1, e2⟩ := same _ _ e
    rw [← e1, ← e2]
    exact plain (.val n) rfl rfl
  | txt z =>
    cases b with
    | null => exact absurd (same (.txt z) .null e).1 (by simp)
    | val n => exact absurd (same (.txt z) (.val n) e).1 (by simp)
    | txt y =>
      have e0 : (if z ∈ fx ∨ y ∈ fx then (if z = y then some acc else none) else if (∀ q ∈ acc, (q.1 = z ↔ q.2 = y)) then some (if (z, y) ∈ acc then acc else acc ++ [(z, y)]) else none) = some acc' := e
      by_cases c : z ∈ fx ∨ y ∈ fx
      · rw [if_pos c] at e0
        by_cases zy : z = y
        · rw [if_pos zy] at e0
          have ea := Option.some.inj e0
          subst zy ea
          have zf : z ∈ fx := c.elim id id
          have t : ∀ l, tstep fx l z = l := fun l => by unfold tstep; rw [if_pos zf]
          refine ⟨h, ⟨[], (List.append_nil _).symm⟩, (t _).symm, (t _).symm, ?_, fun u m n => ?_⟩
          · show Cel.txt z = Cel.txt ((look acc z).getD z)
            rw [look_fx h zf]; rfl
          · rw [List.mem_singleton.mp m] at n
            exact absurd zf n
        · rw [if_neg zy] at e0; cases e0
      · rw [if_neg c] at e0
        by_cases d : ∀ q ∈ acc, (q.1 = z ↔ q.2 = y)
        · rw [if_pos d] at e0
          have ea := Option.some.inj e0
          obtain ⟨i1, i2, i3⟩ := mstep h (fun m => c (.inl m)) (fun m => c (.inr m)) d
          rw [ea] at i1 i2 i3
          have mem : (z, y) ∈ acc' := by
            rw [← ea]
            split
            · assumption
            · exact List.mem_append_right _ (List.mem_singleton.mpr rfl)
          refine ⟨i1, ?_, i2, i3, ?_, fun u m _ => ?_⟩
          · rw [← ea]
            split
            · exact ⟨[], (List.append_nil _).symm⟩
            · exact ⟨_, rfl⟩
          · show Cel.txt y = Cel.txt ((look acc' z).getD z)
            rw [i1.look mem]; rfl
          · rw [List.mem_singleton.mp m]
            exact List.mem_map.mpr ⟨_, mem, rfl⟩
        · rw [if_neg d] at e0; cases e0
end Tq
namespace Tq
open PySem PySem.Spec PyProof.Rows L2
def mcells (fx : List Str) : List (Str × Str) → List Cel → List Cel → Option (List (Str × Str))
  | acc, [], [] => some acc
  | acc, a :: as, b :: bs => (mcell fx acc a b).bind fun acc' => mcells fx acc' as bs
  | _, _, _ => none
def mrow (fx : List Str) (acc : List (Str × Str)) : CRow → CRow → Option (List (Str × Str))
  | none, none => some acc
  | some cs, some ds => mcells fx acc cs ds
  | _, _ => none
def mrec (fx : List Str) : List (Str × Str) → List CRow → List CRow → Option (List (Str × Str))
  | acc, [], [] => some acc
  | acc, a :: as, b :: bs => (mrow fx acc a b).bind fun acc' => mrec fx acc' as bs
  | _, _, _ => none
/-- more pairs don't change what stands already -/
theorem sub_more {fx : List Str} {acc more : List (Str × Str)} {c : Cel} (h : MInv fx acc) (h2 : MInv fx more) (x : ∃ r, more = acc ++ r) (k : ∀ z ∈ c.ts, z ∉ fx → z ∈ acc.map (·.1)) : c.sub (look more) = c.sub (look acc) := by
  cases c with
  | null => rfl
  | val n => rfl
  | txt z =>
    show Cel.txt ((look more z).getD z) = Cel.txt ((look acc z).getD z)
    by_cases m : z ∈ fx
    · rw [look_fx h m, look_fx h2 m]
    · obtain ⟨q, hq, e⟩ := List.mem_map.mp (k z (List.mem_singleton.mpr rfl) m)
      obtain ⟨r, rfl⟩ := x
      have a1 := h.look hq
      have a2 := h2.look (List.mem_append_left r hq)
      have e' : q.1 = z := e
      rw [e'] at a1 a2
      rw [a1, a2]
theorem mcells_ok {fx : List Str} : ∀ {cs ds : List Cel} {acc acc' : List (Str × Str)}, MInv fx acc → mcells fx acc cs ds = some acc' →
    MInv fx acc' ∧ (∃ r, acc' = acc ++ r) ∧ acc'.map (·.1) = (cs.filterMap Cel.txt?).foldl (tstep fx) (acc.map (·.1)) ∧ acc'.map (·.2) = (ds.filterMap Cel.txt?).foldl (tstep fx) (acc.map (·.2)) ∧ (∀ more, MInv fx more → (∃ r, more = acc' ++ r) → ds = cs.map (Cel.sub (look more)))
  | [], [], acc, acc', h, e => by
    have e' := Option.some.inj (show some acc = some acc' from e)
    subst e'
    exact ⟨h, ⟨[], (List.append_nil _).symm⟩, rfl, rfl, fun _ _ _ => rfl⟩
  | [], _ :: _, _, _, _, e => by cases e
  | _ :: _, [], _, _, _, e => by cases e
  | a :: as, b :: bs, acc, acc', h, e => by
    obtain ⟨m, e1, e2⟩ := Option.bind_eq_some_iff.mp (show (mcell fx acc a b).bind (fun acc' => mcells fx acc' as bs) = some acc' from e)
    obtain ⟨i1, ⟨r, er⟩, i3, i4, i5, i6⟩ := mcell_ok h e1
    obtain ⟨j1, ⟨r2, er2⟩, j3, j4, j5⟩ := mcells_ok i1 e2
    have tx : ∀ (c : Cel) (cs : List Cel), (c :: cs).filterMap Cel.txt? = c.ts ++ cs.filterMap Cel.txt? := fun c cs => by cases c <;> rfl
    refine ⟨j1, ⟨r ++ r2, by rw [er2, er, List.append_assoc]⟩, ?_, ?_, fun more hm ⟨r3, er3⟩ => ?_⟩
    · rw [tx, List.foldl_append, ← i3]; exact j3
    · rw [tx, List.foldl_append, ← i4]; exact j4
    · rw [List.map_cons, ← j5 more hm ⟨r3, er3⟩, sub_more i1 hm ⟨r2 ++ r3, by rw [er3, er2, List.append_assoc]⟩ i6, ← i5]
theorem mrec_ok {fx : List Str} : ∀ {R S : List CRow} {acc acc' : List (Str × Str)}, MInv fx acc → mrec fx acc R S = some acc' →
    MInv fx acc' ∧ (∃ r, acc' = acc ++ r) ∧ acc'.map (·.1) = (recT R).foldl (tstep fx) (acc.map (·.1)) ∧ acc'.map (·.2) = (recT S).foldl (tstep fx) (acc.map (·.2)) ∧ (∀ more, MInv fx more → (∃ r, more = acc' ++ r) → S = recSub (look more) R)
  | [], [], acc, acc', h, e => by
    have e' := Option.some.inj (show some acc = some acc' from e)
    subst e'
    exact ⟨h, ⟨[], (List.append_nil _).symm⟩, rfl, rfl, fun _ _ _ => rfl⟩
  | [], _ :: _, _, _, _, e => by cases e
  | _ :: _, [], _, _, _, e => by cases e
  | a :: as, b :: bs, acc, acc', h, e => by
    obtain ⟨m, e1, e2⟩ := Option.bind_eq_some_iff.mp (show (mrow fx acc a b).bind (fun acc' => mrec fx acc' as bs) = some acc' from e)
    have row : MInv fx m ∧ (∃ r, m = acc ++ r) ∧ m.map (·.1) = (rowT a).foldl (tstep fx) (acc.map (·.1)) ∧ m.map (·.2) = (rowT b).foldl (tstep fx) (acc.map (·.2)) ∧ (∀ more, MInv fx more → (∃ r, more = m ++ r) → b = rowSub (look more) a) := by
      cases a with
      | none =>
        cases b with
        | none =>
          have e' := Option.some.inj (show some acc = some m from e1)
          subst e'
          exact ⟨h, ⟨[], (List.append_nil _).symm⟩, rfl, rfl, fun _ _ _ => rfl⟩
        | some ds => cases e1
      | some cs =>
        cases b with
        | none => cases e1
        | some ds =>
          obtain ⟨j1, j2, j3, j4, j5⟩ := mcells_ok h (show mcells fx acc cs ds = some m from e1)
          exact ⟨j1, j2, j3, j4, fun more hm x => congrArg some (j5 more hm x)⟩
    obtain ⟨i1, ⟨r, er⟩, i3, i4, i5⟩ := row
    obtain ⟨j1, ⟨r2, er2⟩, j3, j4, j5⟩ := mrec_ok i1 e2
    have tx : ∀ (a : CRow) (as : List CRow), recT (a :: as) = rowT a ++ recT as := fun a as => rfl
    refine ⟨j1, ⟨r ++ r2, by rw [er2, er, List.append_assoc]⟩, ?_, ?_, fun more hm ⟨r3, er3⟩ => ?_⟩
    · rw [tx, List.foldl_append, ← i3]; exact j3
    · rw [tx, List.foldl_append, ← i4]; exact j4
    · show b :: bs = rowSub (look more) a :: recSub (look more) as
      rw [← j5 more hm ⟨r3, er3⟩, ← i5 more hm ⟨r2 ++ r3, by rw [er3, er2, List.append_assoc]⟩]
/-- what the walk finds is the renaming, and the records are similar -/
theorem mrec_sound {fx : List Str} {R S : List CRow} {acc : List (Str × Str)} (e : mrec fx [] R S = some acc) : acc = (freeT fx R).zip (freeT fx S) ∧ canon fx R = canon fx S ∧ S = recSub (look acc) R := by
  obtain ⟨i1, _, i3, i4, i5⟩ := mrec_ok (MInv.nil fx) e
  have f1 : acc.map (·.1) = freeT fx R := by rw [freeT_eq]; exact i3
  have f2 : acc.map (·.2) = freeT fx S := by rw [freeT_eq]; exact i4
  have ea : acc = (freeT fx R).zip (freeT fx S) := by rw [← f1, ← f2]; exact (zip_back acc).symm
  have es := i5 acc i1 ⟨[], (List.append_nil _).symm⟩
  refine ⟨ea, ?_, es⟩
  have l : (freeT fx S).length = (freeT fx R).length := by rw [← f1, ← f2, List.length_map, List.length_map]
  have c := (canon_sub (fx := fx) (R := R) (T := freeT fx S) (freeT_nd fx S) l (fun t m => (freeT_mem.mp m).2)).2
  rw [← ea, ← es] at c
  exact c.symm
end Tq
namespace Tq
open PySem PySem.Spec PyProof.Rows L2
theorem mcell_full {fx : List Str} {P acc : List (Str × Str)} {a : Cel} (hP : MInv fx P) (k : ∀ z ∈ a.ts, z ∉ fx → z ∈ P.map (·.1)) (sub : ∀ q ∈ acc, q ∈ P) : ∃ acc', mcell fx acc a (a.sub (look P)) = some acc' ∧ ∀ q ∈ acc', q ∈ P := by
  cases a with
  | null => exact ⟨acc, (if_pos rfl : (if Cel.null = Cel.null then some acc else none) = some acc), sub⟩
  | val n => exact ⟨acc, (if_pos rfl : (if Cel.val n = Cel.val n then some acc else none) = some acc), sub⟩
  | txt z =>
    show ∃ acc', (if z ∈ fx ∨ (look P z).getD z ∈ fx then (if z = (look P z).getD z then some acc else none) else if (∀ q ∈ acc, (q.1 = z ↔ q.2 = (look P z).getD z)) then some (if (z, (look P z).getD z) ∈ acc then acc else acc ++ [(z, (look P z).getD z)]) else none) = some acc' ∧ _
    by_cases m : z ∈ fx
    · rw [look_fx hP m]
      exact ⟨acc, by rw [if_pos (.inl m)]; exact if_pos rfl, sub⟩
    · obtain ⟨q, hq, e⟩ := List.mem_map.mp (k z (List.mem_singleton.mpr rfl) m)
      obtain ⟨u, y⟩ := q
      have e' : u = z := e
      subst e'
      have a1 : look P u = some y := hP.look hq
      rw [a1]
      have hy := hP.off2 _ hq
      have one : ∀ q ∈ acc, (q.1 = u ↔ q.2 = y) := fun q hqa => by
        have hqP := sub q hqa
        constructor
        · intro e
          have b1 := hP.look hqP
          rw [e, a1] at b1
          exact (Option.some.inj b1).symm
        · intro e
          obtain ⟨i, hi⟩ := List.mem_iff_getElem?.mp hqP
          obtain ⟨j, hj⟩ := List.mem_iff_getElem?.mp hq
          have i2 : (P.map (·.2))[i]? = some y := by rw [List.getElem?_map, hi]; exact congrArg some e
          have j2 : (P.map (·.2))[j]? = some y := by rw [List.getElem?_map, hj]; rfl
          have ij : i = j := (List.getElem?_inj (List.getElem?_eq_some_iff.mp i2).1 hP.nd2).mp (i2.trans j2.symm)
          rw [ij, hj] at hi
          exact congrArg (·.1) (Option.some.inj hi).symm
      refine ⟨_, by rw [if_neg (fun c => c.elim m hy)]; exact if_pos one, fun q hq2 => ?_⟩
      by_cases c : (u, (some y).getD u) ∈ acc
      · rw [if_pos c] at hq2; exact sub q hq2
      · rw [if_neg c] at hq2
        rcases List.mem_append.mp hq2 with h | h
        · exact sub q h
        · rw [List.mem_singleton.mp h]; exact hq
theorem mcells_full {fx : List Str} {P : List (Str × Str)} (hP : MInv fx P) : ∀ (cs : List Cel) (acc : List (Str × Str)), (∀ z ∈ cs.filterMap Cel.txt?, z ∉ fx → z ∈ P.map (·.1)) → (∀ q ∈ acc, q ∈ P) → ∃ acc', mcells fx acc cs (cs.map (Cel.sub (look P))) = some acc' ∧ ∀ q ∈ acc', q ∈ P
  | [], acc, _, sub => ⟨acc, rfl, sub⟩
  | a :: as, acc, k, sub => by
    have tx : (a :: as).filterMap Cel.txt? = a.ts ++ as.filterMap Cel.txt? := by cases a <;> rfl
    rw [tx] at k
    obtain ⟨m, e1, s1⟩ := mcell_full hP (fun z hz => k z (List.mem_append_left _ hz)) sub
    obtain ⟨n, e2, s2⟩ := mcells_full hP as m (fun z hz => k z (List.mem_append_right _ hz)) s1
    refine ⟨n, ?_, s2⟩
    show (mcell fx acc a (a.sub (look P))).bind (fun acc' => mcells fx acc' as (as.map (Cel.sub (look P)))) = some n
    rw [e1]
    exact e2
theorem mrec_full {fx : List Str} {P : List (Str × Str)} (hP : MInv fx P) : ∀ (R : List CRow) (acc : List (Str × Str)), (∀ z ∈ recT R, z ∉ fx → z ∈ P.map (·.1)) → (∀ q ∈ acc, q ∈ P) → ∃ acc', mrec fx acc R (recSub (look P) R) = some acc' ∧ ∀ q ∈ acc', q ∈ P
  | [], acc, _, sub => ⟨acc, rfl, sub⟩
  | a :: as, acc, k, sub => by
    have tx : recT (a :: as) = rowT a ++ recT as := rfl
    rw [tx] at k
    have row : ∃ m, mrow fx acc a (rowSub (look P) a) = some m ∧ ∀ q ∈ m, q ∈ P := by
      cases a with
      | none => exact ⟨acc, rfl, sub⟩
      | some cs => exact mcells_full hP cs acc (fun z hz => k z (List.mem_append_left _ hz)) sub
    obtain ⟨m, e1, s1⟩ := row
    obtain ⟨n, e2, s2⟩ := mrec_full hP as m (fun z hz => k z (List.mem_append_right _ hz)) s1
    refine ⟨n, ?_, s2⟩
    show (mrow fx acc a (rowSub (look P) a)).bind (fun acc' => mrec fx acc' as (recSub (look P) as)) = some n
    rw [e1]
    exact e2
theorem recSub_none (R : List CRow) : recSub (fun _ => none) R = R := by
  have h := recSub_two (f := fun _ => none) (fun z => rfl) R
  have g : recSub (fun _ => none) (recSub (fun _ => none) R) = recSub (fun _ => none) R := recSub_comp fun z _ => rfl
  rw [g] at h
  exact h
/-- of similar records one is the other, replaced by the pairs of their free texts -/
theorem canon_same {fx : List Str} {R S : List CRow} (h : canon fx R = canon fx S) : S = recSub (look ((freeT fx R).zip (freeT fx S))) R := by
  have ll := canon_lens h
  have sR := firstN_len "v" (freeT fx R).length fx
  have sn := firstN_nd "v" (freeT fx R).length fx
  have ndR := freeT_nd fx R
  have ndS := freeT_nd fx S
  have hS : recSub (look ((firstN "v" (freeT fx R).length fx).zip (freeT fx S))) (canon fx S) = S := by
    have c : recSub (look ((firstN "v" (freeT fx R).length fx).zip (freeT fx S))) (canon fx S) = recSub (fun _ => none) S := by
      unfold canon
      rw [← ll]
      refine recSub_comp fun z hz => ?_
      by_cases m : z ∈ freeT fx S
      · obtain ⟨i, hi⟩ := List.mem_iff_getElem?.mp m
        have il := (List.getElem?_eq_some_iff.mp hi).1
        have e2 : (firstN "v" (freeT fx R).length fx)[i]? = some ((firstN "v" (freeT fx R).length fx)[i]'(by omega)) := List.getElem?_eq_getElem (by omega)
        rw [sb_new ndS (by omega) hi e2, sb_new sn (by omega) e2 hi]; rfl
      · rw [sb_old m]
        refine (sb_old fun q => ?_).trans rfl
        by_cases c : z ∈ fx
        · exact firstN_off z q c
        · exact m (freeT_mem.mpr ⟨hz, c⟩)
    rw [c, recSub_none]
  rw [← h] at hS
  conv => lhs; rw [← hS]
  unfold canon
  refine recSub_comp fun z hz => ?_
  by_cases m : z ∈ freeT fx R
  · obtain ⟨i, hi⟩ := List.mem_iff_getElem?.mp m
    have il := (List.getElem?_eq_some_iff.mp hi).1
    have e2 : (firstN "v" (freeT fx R).length fx)[i]? = some ((firstN "v" (freeT fx R).length fx)[i]'(by omega)) := List.getElem?_eq_getElem (by omega)
    have e3 : (freeT fx S)[i]? = some ((freeT fx S)[i]'(by omega)) := List.getElem?_eq_getElem (by omega)
    rw [sb_new ndR (by omega) hi e2, sb_new sn (by omega) e2 e3, sb_new ndR (by omega) hi e3]
  · rw [sb_old m, sb_old m]
    refine sb_old fun q => ?_
    by_cases c : z ∈ fx
    · exact firstN_off z q c
    · exact m (freeT_mem.mpr ⟨hz, c⟩)
/-- the walk finds what there is -/
theorem mrec_iff {fx : List Str} {R S : List CRow} : (canon fx R = canon fx S ∧ mrec fx [] R S = some ((freeT fx R).zip (freeT fx S)) ∧ S = recSub (look ((freeT fx R).zip (freeT fx S))) R) ∨ (¬ canon fx R = canon fx S ∧ mrec fx [] R S = none) := by
  by_cases h : canon fx R = canon fx S
  · have es := canon_same h
    have ll := canon_lens h
    have f1 : ((freeT fx R).zip (freeT fx S)).map (·.1) = freeT fx R := List.map_fst_zip (by omega)
    have f2 : ((freeT fx R).zip (freeT fx S)).map (·.2) = freeT fx S := List.map_snd_zip (by omega)
    have hP : MInv fx ((freeT fx R).zip (freeT fx S)) := ⟨by rw [f1]; exact freeT_nd fx R, by rw [f2]; exact freeT_nd fx S, fun q hq => (freeT_mem.mp (List.of_mem_zip (a := q.1) (b := q.2) hq).1).2, fun q hq => (freeT_mem.mp (List.of_mem_zip (a := q.1) (b := q.2) hq).2).2⟩
    obtain ⟨acc, e, _⟩ := mrec_full hP R [] (fun z hz n => by rw [f1]; exact freeT_mem.mpr ⟨hz, n⟩) (fun _ m => nomatch m)
    rw [← es] at e
    have ea := (mrec_sound e).1
    rw [ea] at e
    exact .inl ⟨h, e, es⟩
  · refine .inr ⟨h, ?_⟩
    cases e : mrec fx [] R S with
    | none => rfl
    | some acc => exact absurd (mrec_sound e).2.1 h
end Tq
/-! enumerate(a tuple) -/
namespace Tq
open PySem PySem.Spec PyProof.Rows L2
open PySem.AutoSeq1 (wpAny_loadPart')
theorem et_new (l : Addr) (its : Array Value) (n : Nat) (dc : Option Addr) (sl : Array (Option Value)) :
    Meets (Builtin.«enumerate.__new__» ⟨[.type "enumerate", .ref l], []⟩) (fun _ R s => s.heap.get? l = some { cls := .type "tuple", dict := dc, data := .seq its n, slots := sl } ∧ R (.ok (.ret (.ref (s.heap.push { cls := .type "tuple_iterator", data := .fields #[.ref l, .int 0 0] }).objs.size))) { s with heap := (s.heap.push { cls := .type "tuple_iterator", data := .fields #[.ref l, .int 0 0] }).push { cls := .type "enumerate", data := .fields #[.none, .bool false, .ref s.heap.objs.size, rawInt 0, .none, .none] } }) :=
  .of_wp fun prog w A R s h => by
    obtain ⟨hp, g, d, tk, os⟩ := s; obtain ⟨hl, h⟩ := h; have hsub := sub_enumerate
    have hL : Heap.IsTuple (Shared.heap ⟨hp, g, d, tk, os⟩) l its := ⟨_, hl, rfl, n, rfl⟩
    wp_walk using wpAny_loadPart' hl
    refine wpAny_stack_any fun st => wpAny_pure ?_
    split
    · rename_i c _ _ _ _ _
      cases (c == Value.type "enumerate") <;> (wp_walk using wpAny_loadPart' hl, wpAny_pyIter_tuple hL; exact ⟨_, rfl, h⟩)
    · wp_walk using wpAny_loadPart' hl, wpAny_pyIter_tuple hL; exact ⟨_, rfl, h⟩
section
variable {prog : Program} {w : World} {A : Around} {E : Value → Shared → Prop} {s : Shared}
theorem et_call {l : Addr} {its : Array Value} {Q : Value → Shared → Prop} (hL : s.heap.IsTuple l its)
    (h : ∀ h', IsEnum h' (s.heap.objs.size + 1) s.heap.objs.size 0 .none → h'.IsTupleIter s.heap.objs.size l 0 → h'.objs.size = s.heap.objs.size + 2 → (∀ b o, s.heap.get? b = some o → h'.get? b = some o) → Q (.ref (s.heap.objs.size + 1)) { s with heap := h' }) :
    wpAny (model prog w) A (call (.type "enumerate") [.ref l]) Q E s := by
  obtain ⟨⟨c, dct, dt, sl⟩, hl, hc, n, hd⟩ := hL
  replace hc : c = .type "tuple" := hc; replace hd : dt = .seq its n := hd; subst hc hd
  refine callType_new F.called_enumerate (by decide) (F.typeCall_enumerate_1 _) (F.newCall_enumerate_1 _) (fun obj => F.args_object_init_2 obj _) F.entry_enumerate_new (et_new l its n dct sl) ⟨hl, ?_⟩
  have hz : (s.heap.push { cls := .type "tuple_iterator", data := .fields #[.ref l, .int 0 0] }).objs.size = s.heap.objs.size + 1 := Heap.size_push ..
  show _ ∧ _
  rw [hz]
  have he : IsEnum ((s.heap.push { cls := .type "tuple_iterator", data := .fields #[.ref l, .int 0 0] }).push { cls := .type "enumerate", data := .fields #[.none, .bool false, .ref s.heap.objs.size, rawInt 0, .none, .none] }) (s.heap.objs.size + 1) s.heap.objs.size 0 .none := by
    have e := Heap.get?_push_size (s.heap.push { cls := .type "tuple_iterator", data := .fields #[.ref l, .int 0 0] }) (o := { cls := .type "enumerate", data := .fields #[.none, .bool false, .ref s.heap.objs.size, rawInt 0, .none, .none] }) rfl
    rw [hz] at e; exact e
  exact ⟨⟨_, he, rfl⟩, h _ he ⟨_, Heap.get?_push_of_some _ (Heap.get?_push_size _ rfl), rfl, rfl⟩ (by rw [Heap.size_push, hz]) fun b o x => Heap.get?_push_of_some _ (Heap.get?_push_of_some _ x)⟩
theorem et_step {e it l : Addr} {i : Nat} {its : Array Value} {x old : Value} {Q : Value → Shared → Prop} (he : IsEnum s.heap e it i old) (hit : s.heap.IsTupleIter it l i) (hl : s.heap.IsTuple l its) (hx : its[i]? = some x) (hne : e ≠ it)
    (hQ : ∀ h', IsEnumOut h' e it ((i : Int) + 1) x s.heap.objs.size → h'.IsTupleIter it l (i + 1) → h'.get? s.heap.objs.size = some { cls := .type "tuple", data := .seq #[.int i s.toks, x] } → h'.objs.size = s.heap.objs.size + 1 → (∀ b o, b ≠ e → b ≠ it → s.heap.get? b = some o → h'.get? b = some o) → Q (.ref s.heap.objs.size) { s with heap := h', toks := s.toks + 1 }) :
    wpAny (model prog w) A (Builtin.«enumerate.__next__» ⟨[.ref e], []⟩) (fun fin s' => ∃ v, fin = .done (.ret v) ∧ Q v s') E s := by
  obtain ⟨hp, g, d, tk, os⟩ := s
  show wpAny _ _ (field (.ref e) 2 >>= _) _ _ _
  refine wpAny_bind (wpAny_field he rfl (x := .ref it) rfl (wpAny_bind (RZ.nextOf_tuple_item hit hl hx fun a1 it1 s1 => ?_)))
  replace s1 : Heap.SameBut it hp a1 := s1
  have e1 : IsEnum a1 e it i old := (s1.2 e hne).trans he
  show wpAny _ _ (field (.ref e) 3 >>= _) _ _ ⟨a1, g, d, tk, os⟩
  refine wpAny_bind (wpAny_field e1 rfl (x := rawInt i) rfl ?_); show wpAny _ _ (field (.ref e) 4 >>= _) _ _ ⟨a1, g, d, tk, os⟩
  refine wpAny_bind (wpAny_field e1 rfl (x := .none) rfl ?_); show wpAny _ _ (mkInt i >>= _) _ _ ⟨a1, g, d, tk, os⟩
  refine wpAny_bind (wpAny_mkInt ?_); show wpAny _ _ (setField (.ref e) 3 (rawInt ((i : Int) + 1)) >>= _) _ _ ⟨a1, g, d, tk + 1, os⟩
  refine wpAny_bind (wpAny_setField_rec e1 (by simp) fun a2 e2 s2 => ?_)
  replace s2 : Heap.SameBut e a1 a2 := s2; replace e2 : IsEnum a2 e it ((i : Int) + 1) old := e2
  show wpAny _ _ (setField (.ref e) 4 .none >>= _) _ _ ⟨a2, g, d, tk + 1, os⟩
  refine wpAny_bind (wpAny_setField_rec e2 (by simp) fun a3 e3 s3 => ?_)
  replace s3 : Heap.SameBut e a2 a3 := s3; replace e3 : IsEnum a3 e it ((i : Int) + 1) old := e3
  show wpAny _ _ (newTuple [.int i tk, x] >>= _) _ _ ⟨a3, g, d, tk + 1, os⟩
  refine wpAny_bind (wpAny_newTuple ?_)
  have e4 : IsEnum (a3.push { cls := .type "tuple", data := .seq #[.int i tk, x] }) e it ((i : Int) + 1) old := Heap.get?_push_of_some _ e3
  generalize q4 : a3.push { cls := .type "tuple", data := .seq #[.int i tk, x] } = a4 at e4
  have sz : a3.objs.size = hp.objs.size := by rw [s3.1, s2.1, s1.1]
  have el : e < hp.objs.size := Heap.lt_size he
  have t4 : a4.get? hp.objs.size = some { cls := .type "tuple", data := .seq #[.int i tk, x] } := by rw [← q4, ← sz]; exact Heap.get?_push_size _ rfl
  have z4 : a4.objs.size = hp.objs.size + 1 := by rw [← q4, Heap.size_push, sz]
  have k4 : ∀ b o, b ≠ e → b ≠ it → hp.get? b = some o → a4.get? b = some o := fun b o be bi hb => by
    rw [← q4]; exact Heap.get?_push_of_some _ (s3.extBut b o be (s2.extBut b o be (s1.extBut b o bi hb)))
  have it4 : a4.IsTupleIter it l (i + 1) := by
    rw [← q4]; exact ((it1.extBut s2.extBut hne.symm).extBut s3.extBut hne.symm).at fun o q => Heap.get?_push_of_some _ q
  show wpAny _ _ (Builtin.SmallTypes.ownedTupleIsFree (.ref e) >>= _) _ _ ⟨a4, g, d, tk + 1, os⟩
  rw [sz]
  clear q4 e3 s3 e2 s2 e1 s1 it1 sz a3 a2 a1
  refine wpAny_bind ?_
  unfold Builtin.SmallTypes.ownedTupleIsFree
  refine wpAny_bind (wpAny_field e4 rfl (x := .none) rfl (wpAny_pure ?_))
  simp only [if_true]
  refine wpAny_bind (wpAny_rule (wpAny_bind (wpAny_field e4 rfl (x := old) rfl (wpAny_bind (wpAny_setField_rec e4 (by simp) fun a5 e5 s5 => ?_)))))
  replace s5 : Heap.SameBut e a4 a5 := s5; replace e5 : IsEnum a5 e it ((i : Int) + 1) x := e5
  show wpAny _ _ (Builtin.SmallTypes.ownedTupleHandOut (.ref e) (.ref hp.objs.size) >>= _) _ _ ⟨a5, g, d, tk + 1, os⟩
  refine wpAny_bind ?_
  unfold Builtin.SmallTypes.ownedTupleHandOut
  refine wpAny_bind (wpAny_setField_rec e5 (by simp) fun a6 e6 s6 => ?_)
  replace s6 : Heap.SameBut e a5 a6 := s6; replace e6 : IsEnumOut a6 e it ((i : Int) + 1) x hp.objs.size := e6
  refine wpAny_setField_rec e6 (by simp) fun a7 e7 s7 => ?_
  replace s7 : Heap.SameBut e a6 a7 := s7; replace e7 : IsEnumOut a7 e it ((i : Int) + 1) x hp.objs.size := e7
  refine wpAny_bind (wpAny_letGo (wpAny_pure ⟨_, rfl, hQ a7 e7 (((it4.extBut s5.extBut hne.symm).extBut s6.extBut hne.symm).extBut s7.extBut hne.symm) ?_ (by rw [s7.1, s6.1, s5.1, z4]) fun b o be bi hb => s7.extBut b o be (s6.extBut b o be (s5.extBut b o be (k4 b o be bi hb)))⟩))
  exact s7.extBut _ _ (Nat.ne_of_gt el) (s6.extBut _ _ (Nat.ne_of_gt el) (s5.extBut _ _ (Nat.ne_of_gt el) t4))
theorem et_next {e it l : Addr} {i : Nat} {its : Array Value} {x old : Value} {Q : Option Value → Shared → Prop} (he : IsEnum s.heap e it i old) (hit : s.heap.IsTupleIter it l i) (hl : s.heap.IsTuple l its) (hx : its[i]? = some x) (hne : e ≠ it)
    (hQ : ∀ h', IsEnumOut h' e it ((i : Int) + 1) x s.heap.objs.size → h'.IsTupleIter it l (i + 1) → h'.get? s.heap.objs.size = some { cls := .type "tuple", data := .seq #[.int i s.toks, x] } → h'.objs.size = s.heap.objs.size + 1 → (∀ b o, b ≠ e → b ≠ it → s.heap.get? b = some o → h'.get? b = some o) → Q (some (.ref s.heap.objs.size)) { s with heap := h', toks := s.toks + 1 }) :
    wpAny (model prog w) A (pyNext (.ref e)) Q E s := by
  have ty : s.TypeIs (.ref e) "enumerate" := ⟨_, he, rfl⟩
  unfold pyNext
  exact wpAny_bind (wpAny_attempt (wpAny_callSpecial?_slot (name := Str.ofString "__next__") ty F.slot_enumerate_next (wpAny_call_entry F.slot_enumerate_next ty F.entry_enumerate_next (et_step he hit hl hx hne fun h' a b c d k => wpAny_pure (hQ h' a b c d k)) (F.args_enumerate_next_1 _))))
theorem et_end {e it l : Addr} {i : Nat} {its : Array Value} {old : Value} {Q : Option Value → Shared → Prop} (hh : A.handled = none) (he : IsEnum s.heap e it i old) (hit : s.heap.IsTupleIter it l i) (hl : s.heap.IsTuple l its) (hx : its[i]? = none)
    (hQ : ∀ h', Heap.ExtBut it s.heap h' → Q none { s with heap := h' }) : wpAny (model prog w) A (pyNext (.ref e)) Q E s := by
  have ty : s.TypeIs (.ref e) "enumerate" := ⟨_, he, rfl⟩
  unfold pyNext
  refine wpAny_bind (wpAny_attempt (wpAny_callSpecial?_slot (name := Str.ofString "__next__") ty F.slot_enumerate_next (wpAny_call_entry F.slot_enumerate_next ty F.entry_enumerate_next ?_ (F.args_enumerate_next_1 _))))
  show wpAny _ _ (field (.ref e) 2 >>= _) _ _ _
  refine wpAny_bind (wpAny_field he rfl (x := .ref it) rfl (wpAny_bind (RZ.nextOf_tuple_end hh hit hl hx fun h' x he' hx' => ?_)))
  obtain ⟨o, ho, hc⟩ := hx'
  exact wpAny_bind (wpAny_isInstance (T := "StopIteration") (b := true) ⟨o, ho, hc⟩ isSubtype_stop (wpAny_pure (hQ _ he')))
end
/-- the tuple at a, each item in a new pair -/
def IteT (K : PySem.W.Frag) (a : Addr) : It :=
  ⟨fun i H => ∃ (xs : List V) (x : V), SqT K H a xs ∧ xs[i]? = some x, fun i H v H' => ∃ T x, v = .ref T ∧ H T = none ∧ H' = upd H T (.tup [.int (i : Nat), x]) ∧ ∀ xs, SqT K H a xs → xs[i]? = some x, fun i H => ∃ xs : List V, SqT K H a xs ∧ xs.length ≤ i⟩
theorem et_turn {P : Program} {w : World} {K : PySem.W.Frag} {elts : List Expr} {kk : Nat} {tpos : Pos} (a e it : Addr) :
    Turn P w K (.Tuple elts kk tpos) (IteT K a) [e, it] e (fun i h => (∃ old, IsEnum h e it ((i : Nat) : Int) old) ∧ h.IsTupleIter it a i ∧ e ≠ it) where
  mem := by simp
  obj := fun i h st b hb => by
    obtain ⟨⟨old, he⟩, ⟨o, ho, hc, hd⟩, _⟩ := st
    have e' : b = e ∨ b = it := by simpa using hb
    rcases e' with z | z <;> rw [z]
    · exact ⟨_, he, fun v q => nomatch q⟩
    · exact ⟨o, ho, fun v q => by rw [hd] at q; cases q⟩
  keep := fun i h h' st k => ⟨st.1.imp fun old he => k e (by simp) _ he, st.2.1.at fun o q => k it (by simp) o q, st.2.2⟩
  item := by
    intro X hP hw hK hc i pins s σ H E I hf st hg
    subst hP hw hK
    obtain ⟨⟨old, he⟩, hit, hne⟩ := st; obtain ⟨xs, x, hq, hx⟩ := hg
    obtain ⟨its, rv, p, hz⟩ := I.tuple hq; obtain ⟨u, hu, ru⟩ := rv.get hx
    have hel : e < s.heap.objs.size := Heap.lt_size he
    have hil : it < s.heap.objs.size := by obtain ⟨_, q, _⟩ := hit; exact Heap.lt_size q
    refine et_next he hit p (x := u) (by simpa using hu) hne fun h' ho hit' hT hsz hk => ⟨_, rfl, wpAny_letOwnedTupleGo_enum (s := { s with heap := h', toks := s.toks + 1 }) ho fun h'' he' sb => ?_⟩
    have hT2 : h''.get? s.heap.objs.size = some { cls := .type "tuple", data := .seq #[.int i s.toks, u] } := (sb.2 _ (Nat.ne_of_gt hel)).trans hT
    have new : ObjOk X.prog X.w (upd H s.heap.objs.size (.tup [.int (i : Nat), x])) h'' s.heap.objs.size (.tup [.int (i : Nat), x]) := ⟨by show 2 ≤ sizeLine; decide, [.int i s.toks, u], .cons ⟨_, rfl⟩ (.cons ru .nil), ⟨_, hT2, rfl, _, rfl⟩⟩
    have I1 : Inv X pins σ (upd H s.heap.objs.size (.tup [.int (i : Nat), x])) { s with heap := h'', toks := s.toks + 1 } := I.turnedNew (ch := [e, it]) (fun b ob hb q => (sb.2 b (fun z => hb (by simp [z]))).trans (hk b ob (fun z => hb (by simp [z])) (fun z => hb (by simp [z])) q)) hf (Nat.le_refl _) new
    refine ⟨.ref s.heap.objs.size, _, I1, rfl, ⟨_, x, rfl, I.hok.fresh (Nat.le_refl _), rfl, fun ys hy => by rw [I.tuple_inj hy hq]; exact hx⟩, ⟨⟨u, ?_⟩, hit'.at fun o q => (sb.2 it (Ne.symm hne)).trans q, hne⟩, fun b hb => ?_⟩
    · rw [show ((i + 1 : Nat) : Int) = (i : Int) + 1 by omega]; exact he'
    · have hb' : b < s.heap.objs.size := by
        have e' : b = e ∨ b = it := by simpa using hb
        rcases e' with z | z <;> rw [z]
        · exact hel
        · exact hil
      rw [upd_ne (Nat.ne_of_lt hb')]; exact (hf b hb).1
  done := by
    intro X hP hw hK hc i pins s σ H E I hf st hg
    subst hP hw hK
    obtain ⟨⟨old, he⟩, hit, hne⟩ := st; obtain ⟨xs, hq, hx⟩ := hg
    obtain ⟨its, rv, p, hz⟩ := I.tuple hq; obtain ⟨f0, f1, f2, f3, f4, f5⟩ := hf it (by simp)
    have hl := rv.length
    exact et_end (I.ok.hd hc) he hit p (by simp; omega) fun h' eb => ⟨rfl, I.turned (t' := s.toks) (fun b o hb q => eb b o hb q) f0 f1 f3 f4 f5⟩
  self := fun A i s Q E st h => st.1.elim fun _ he => wpAny_pyIter_enum he h
def iEnT (K : PySem.W.Frag) (ta : TA) : TI := fun σ H R => ta σ H fun vs H1 => ∃ a xs, vs = [.ref a] ∧ SqT K H1 a xs ∧ R (IteT K a) H1
theorem pi_enT {X : Cx} {e : Expr} {ta : TA} {p pos tpos : Pos} {elts : List Expr} {kk : Nat} (hg : Gl X "enumerate") (hm : X.mg "enumerate" = none) (ha : PA X [e] ta) (hs : starEach [e] X.env = [(false, eval e X.env)] := by rfl) :
    PI X (.Tuple elts kk tpos) (.Call (.Name "enumerate" p) [e] [] pos) (iEnT X.K ta) := by
  refine ⟨fun pins s σ H R I h => Call_ (ld_blt I hg hm boot_enumerate (PyProof.Rows.callWith_type1 (thn (ha.run pos pins s σ H _ I h) fun us s1 ⟨vs, H1, I1, r1, q1⟩ => ?_) hs rfl))⟩
  obtain ⟨a, xs, ex, hq, q⟩ := q1
  subst ex
  cases r1 with
  | cons r rr =>
    cases rr; cases r
    obtain ⟨its, rv, p', hz⟩ := I1.tuple hq
    refine et_call p' fun h' he hit hsz hk => wpAny_pyIter_enum he ?_
    have I2 : Inv X pins σ H1 { s1 with heap := h' } := I1.kept (t' := s1.toks) hk
    refine ⟨s1.heap.objs.size + 1, [s1.heap.objs.size + 1, s1.heap.objs.size], _, _, H1, rfl, I2, et_turn a (s1.heap.objs.size + 1) s1.heap.objs.size, ⟨⟨.none, he⟩, hit, Nat.succ_ne_self _⟩, fun b hb => ?_, q⟩
    have e' : b = s1.heap.objs.size + 1 ∨ b = s1.heap.objs.size := by simpa using hb
    have hle : s1.heap.objs.size ≤ b := by
      rcases e' with z | z <;> rw [z]
      · exact Nat.le_add_right _ _
      · exact Nat.le_refl _
    exact I1.fpOk hle (I1.hok.fresh hle)
theorem k_enT {X : Cx} {K : PySem.W.Frag} {e : Expr} {ta : TA} {p pos tpos : Pos} {elts : List Expr} {kk : Nat} (h : X.K = K) (hg : Gl X "enumerate") (hm : X.mg "enumerate" = none) (ha : PA X [e] ta) (hs : starEach [e] X.env = [(false, eval e X.env)] := by rfl) :
    PI X (.Tuple elts kk tpos) (.Call (.Name "enumerate" p) [e] [] pos) (iEnT K ta) := h ▸ pi_enT hg hm ha hs
section
variable {K : PySem.W.Frag} {σ : L2.St} {H : Hp} {a : Addr} {xs : List V} {tr : TA} {te : TE}
theorem l_enT {R : It → Hp → Prop} (q : tr σ H fun vs H1 => ∃ a xs, vs = [.ref a] ∧ SqT K H1 a xs ∧ R (IteT K a) H1) : iEnT K tr σ H R := q
theorem for_enT {g : TG} {tb : TS} {D : Ends} (Pv : Nat → L2.St → Hp → Prop) (h0 : Pv 0 σ H) (hl : ∀ i σ H, i ≤ xs.length → Pv i σ H → SqT K H a xs)
    (hs : ∀ i x σ H T, xs[i]? = some x → Pv i σ H → H T = none → g (.ref T) σ (upd H T (.tup [.int (i : Nat), x])) fun σ2 H2 => tb { D with nx := Pv (i + 1), ct := Pv (i + 1), bk := D.nx } σ2 H2) (hd : ∀ σ H, Pv xs.length σ H → D.nx σ H) :
    ∃ W : Nat → Nat → L2.St → Hp → Prop, (∃ m, W 0 m σ H) ∧ ∀ i m σ H, W i m σ H →
      ((IteT K a).stop i H ∧ D.nx σ H) ∨ ((IteT K a).go i H ∧ ∃ N : L2.St → Hp → Prop, (∀ σ' H', N σ' H' → ∃ m', m' < m ∧ W (i + 1) m' σ' H') ∧ ∀ v H', (IteT K a).yld i H v H' → g v σ H' fun σ2 H2 => tb { D with nx := N, ct := N, bk := D.nx } σ2 H2) := by
  refine ⟨fun i m σ H => m = xs.length - i ∧ i ≤ xs.length ∧ Pv i σ H, ⟨xs.length, rfl, Nat.zero_le _, h0⟩, ?_⟩
  rintro i m σ H ⟨rfl, hi, p⟩
  have q := hl i σ H hi p
  by_cases lt : i < xs.length
  · refine .inr ⟨⟨xs, xs[i], q, List.getElem?_eq_getElem lt⟩, Pv (i + 1), fun σ' H' p' => ⟨xs.length - (i + 1), by omega, rfl, lt, p'⟩, fun v H' y => ?_⟩
    obtain ⟨T, x, rfl, n, rfl, e⟩ := y
    exact hs i x σ H T (e xs q) p n
  · obtain rfl : i = xs.length := by omega
    exact .inl ⟨⟨xs, q, Nat.le_refl _⟩, hd σ H p⟩
end
theorem ixN_nat {n i : Nat} (h : i < n) : ixN n (i : Int) = some i := by
  unfold ixN
  rw [if_pos (by omega), if_pos (by omega), Int.toNat_natCast]
end Tq
namespace Tq
open PySem PySem.Spec PyProof.Rows L2
theorem snoc_ind {α : Type} {P : List α → Prop} (h0 : P []) (hs : ∀ r q, P r → P (r ++ [q])) (l : List α) : P l := by
  have g : ∀ l : List α, P l.reverse := fun l => by
    induction l with
    | nil => exact h0
    | cons x r ih => rw [List.reverse_cons]; exact hs _ _ ih
  have := g l.reverse
  rwa [List.reverse_reverse] at this
/-- a dict whose keys occur once -/
theorem dicT_nd (prs : List (Str × Str)) : (prs.map (·.1)).Nodup → dicT prs = prs.map fun p => ((Sum.inr p.1 : Key), V.str p.2) := by
  refine snoc_ind (P := fun prs => (prs.map (·.1)).Nodup → dicT prs = prs.map fun p => ((Sum.inr p.1 : Key), V.str p.2)) (fun _ => rfl) (fun r q ih h => ?_) prs
  rw [List.map_append] at h
  have h1 := (List.nodup_append.mp h)
  rw [show [q] = [(q.1, q.2)] from rfl, dicT_snoc, ih h1.1, List.map_append]
  unfold putK
  rw [if_neg]
  · rfl
  · intro c
    obtain ⟨z, hz, e⟩ := List.any_eq_true.mp c
    obtain ⟨u, hu, rfl⟩ := List.mem_map.mp hz
    have e2 : u.1 = q.1 := Sum.inr.inj (of_decide_eq_true e)
    exact h1.2.2 u.1 (List.mem_map.mpr ⟨u, hu, rfl⟩) q.1 (by simp) e2
/-- a pair that stands already changes nothing -/
theorem dicT_old {prs : List (Str × Str)} {a b : Str} (h : (prs.map (·.1)).Nodup) (m : (a, b) ∈ prs) : dicT (prs ++ [(a, b)]) = dicT prs := by
  rw [dicT_snoc, dicT_nd prs h]
  unfold putK
  rw [if_pos (List.any_eq_true.mpr ⟨_, List.mem_map.mpr ⟨_, m, rfl⟩, by simp⟩), List.map_map]
  refine List.map_congr_left fun q hq => ?_
  simp only [Function.comp]
  by_cases e : q.1 = a
  · have e2 := look_of h hq
    have e3 := look_of h m
    rw [e] at e2
    rw [e2] at e3
    rw [if_pos (congrArg Sum.inr e), Option.some.inj e3]
  · rw [if_neg (fun c => e (Sum.inr.inj c))]
/-- .. either way -/
theorem dicT_step {prs : List (Str × Str)} {a b : Str} (h : (prs.map (·.1)).Nodup) : dicT (prs ++ [(a, b)]) = dicT (if (a, b) ∈ prs then prs else prs ++ [(a, b)]) := by
  split
  · rename_i m; exact dicT_old h m
  · rfl
section
variable {X : Cx} {K : PySem.W.Frag} {H : Hp} {Q : VK} {σ : L2.St} {a p d : Addr} {x y v : V} {xs ys : List V} {td ty te ta tb : TE}
theorem row_tru {r : CRow} (h : Dp K H v (rowD r)) : TruV K v H (!(r.getD []).isEmpty) := by
  cases r with
  | none => rw [dp_none h]; rfl
  | some cs =>
    obtain ⟨p, xs, rfl, hS, hA⟩ := dp_tup h
    have l := hA.len
    rw [List.length_map] at l
    refine .inr (.inl ⟨xs, hS, ?_⟩)
    show (!cs.isEmpty) = !xs.isEmpty
    cases cs <;> cases xs <;> simp at l <;> rfl
theorem c_sum (h : X.K = K) (hc : X.calm = true) : CallR X (.builtin "sum") (rSum K) := h ▸ cr_sum hc
theorem l_sum {ns : List Int} (h : SqL K H a (ns.map V.int)) (q : Q (.int ns.sum) H) : rSum K [.ref a] H Q := ⟨a, ns, rfl, h, q⟩
theorem k_catA (h : X.K = K) : OpR X (binaryOp .Add) (rCatA K) := h ▸ op_catA
theorem k_slA (h : X.K = K) : SlR X (rSlA K) := h ▸ sl_tupA
theorem l_neC {a b : Cel} (o1 : CelOk a = true) (o2 : CelOk b = true) (h1 : Dp K H x a.d) (h2 : Dp K H y b.d) (q : Q (.bl (!decide (a = b))) H) : rNeD K x y H Q := by
  have s : ∀ c : Cel, CelOk c = true → SeqAt.shaped c.d = true := fun c o => by
    cases c with
    | null => rfl
    | txt z =>
      have o : PyData.strOk z = true := o
      simp [SeqAt.shaped, Cel.d, PyData.canLay0, PyData.depth, o]
    | val n =>
      have o : PyData.strOk n = true := o
      simp [SeqAt.shaped, Cel.d, PyData.canLay0, PyData.canLayAll0, PyData.depth, PyData.depthAll, o]
  exact ⟨_, _, h1, h2, s a o1, s b o2, by rw [eqv_cel]; exact q⟩
theorem l_lockE {t : TE} {u : HO} (h : H d = some u) (m : Mut (some u)) (q : ∀ od, t σ (upd H d (.frz od u)) fun v H' => H' d = some (.frz od u) ∧ Q v (upd H' d u)) : tLockE t σ H Q := ⟨d, u, h, m, q⟩
theorem l_ikeys {R : It → Hp → Prop} (q : td σ H fun x H1 => ∃ d o, x = .ref d ∧ ((∃ kvs, H1 d = some (.frz o (.dK kvs)) ∧ R (Itk d o kvs) H1) ∨ ∃ kvs, H1 d = some (.frz o (.dT kvs)) ∧ R (Itkt d o kvs) H1)) : iKeys td σ H R := q
theorem lc_keys {o : Obj} {kvs : List (Key × V)} {g : TG} {tt : TT} {vs : List Nat} {H1 : Hp} {D : Addr} {Qd : Hp → Prop} (Pv : Nat → Hp → Prop) (h0 : Pv 0 (upd H1 D (.lst []))) (hl : ∀ i H, i ≤ kvs.length → Pv i H → H d = some (.frz o (.dK kvs)))
    (hs : ∀ i k v H, kvs[i]? = some (k, v) → Pv i H → g (kV k) (wipe σ vs) H fun σ2 H2 => wipe σ2 vs = wipe σ vs ∧ tt σ2 H2 fun b H3 =>
      if b = true then te σ2 H3 fun y H4 => ∃ acc, H4 D = some (.lst acc) ∧ acc.length < sizeLine ∧ Pv (i + 1) (upd H4 D (.lst (acc ++ [y]))) else Pv (i + 1) H3) (hd : ∀ H, Pv kvs.length H → Qd H) :
    ∃ W : Nat → Nat → Hp → Prop, (∃ m, W 0 m (upd H1 D (.lst []))) ∧ ∀ i m H, W i m H →
      ((Itk d o kvs).stop i H ∧ Qd H) ∨ ((Itk d o kvs).go i H ∧ ∃ Nx : Hp → Prop, (∀ H', Nx H' → ∃ m', m' < m ∧ W (i + 1) m' H') ∧ ∀ x H', (Itk d o kvs).yld i H x H' → g x (wipe σ vs) H' fun σ2 H2 => wipe σ2 vs = wipe σ vs ∧ tt σ2 H2 fun b H3 =>
        if b = true then te σ2 H3 fun y H4 => ∃ acc, H4 D = some (.lst acc) ∧ acc.length < sizeLine ∧ Nx (upd H4 D (.lst (acc ++ [y]))) else Nx H3) := by
  refine ⟨fun i m H => m = kvs.length - i ∧ i ≤ kvs.length ∧ Pv i H, ⟨kvs.length, rfl, Nat.zero_le _, h0⟩, ?_⟩
  rintro i m H ⟨rfl, hi, p⟩
  have q := hl i H hi p
  by_cases lt : i < kvs.length
  · refine .inr ⟨⟨q, lt⟩, Pv (i + 1), fun H' p' => ⟨kvs.length - (i + 1), by omega, rfl, lt, p'⟩, fun x H' y => ?_⟩
    obtain ⟨rfl, k, v, e, rfl⟩ := y
    exact hs i k v _ e p
  · obtain rfl : i = kvs.length := by omega
    exact .inl ⟨⟨q, Nat.le_refl _⟩, hd H p⟩
end
end Tq
namespace Tq
open PySem PySem.Spec PyProof.Rows L2
def swp (acc : List (Str × Str)) : List (Str × Str) := acc.map fun q => (q.2, q.1)
theorem swp_fst (acc : List (Str × Str)) : (swp acc).map (·.1) = acc.map (·.2) := by
  unfold swp; rw [List.map_map]; rfl
theorem swp_snoc (acc : List (Str × Str)) (a b : Str) : swp (acc ++ [(a, b)]) = swp acc ++ [(b, a)] := by
  unfold swp; rw [List.map_append]; rfl
theorem swp_if (acc : List (Str × Str)) (a b : Str) : (if (b, a) ∈ swp acc then swp acc else swp acc ++ [(b, a)]) = swp (if (a, b) ∈ acc then acc else acc ++ [(a, b)]) := by
  have e : (b, a) ∈ swp acc ↔ (a, b) ∈ acc := by
    unfold swp
    rw [List.mem_map]
    constructor
    · rintro ⟨q, hq, e⟩
      have e1 := congrArg Prod.fst e
      have e2 := congrArg Prod.snd e
      have : q = (a, b) := Prod.ext e2 e1
      rwa [this] at hq
    · exact fun h => ⟨_, h, rfl⟩
  by_cases h : (a, b) ∈ acc
  · rw [if_pos (e.mpr h), if_pos h]
  · rw [if_neg (fun c => h (e.mp c)), if_neg h, swp_snoc]
/-- the two dicts tell whether the pair fits -/
theorem fit_iff {fx : List Str} {acc : List (Str × Str)} (h : MInv fx acc) (z y : Str) : ((look acc z).getD y = y ∧ (look (swp acc) y).getD z = z) ↔ ∀ q ∈ acc, (q.1 = z ↔ q.2 = y) := by
  have nd2 : ((swp acc).map (·.1)).Nodup := by rw [swp_fst]; exact h.nd2
  have l1 : ∀ q ∈ acc, look acc q.1 = some q.2 := fun q m => look_of h.nd1 m
  have l2 : ∀ q ∈ acc, look (swp acc) q.2 = some q.1 := fun q m => look_of nd2 (List.mem_map.mpr ⟨q, m, rfl⟩)
  constructor
  · rintro ⟨a, b⟩ q m
    constructor
    · intro e
      have := l1 q m
      rw [e] at this
      rw [this] at a
      exact a
    · intro e
      have := l2 q m
      rw [e] at this
      rw [this] at b
      exact b
  · intro c
    constructor
    · by_cases g : ∃ q ∈ acc, q.1 = z
      · obtain ⟨q, m, e⟩ := g
        have := l1 q m
        rw [e] at this
        rw [this]
        exact (c q m).mp e
      · rw [look_none fun q m e => g ⟨q, m, e.symm⟩]; rfl
    · by_cases g : ∃ q ∈ acc, q.2 = y
      · obtain ⟨q, m, e⟩ := g
        have := l2 q m
        rw [e] at this
        rw [this]
        exact (c q m).mpr e
      · rw [look_none fun q m e => by
          obtain ⟨u, hu, rfl⟩ := List.mem_map.mp m
          exact g ⟨u, hu, e.symm⟩]; rfl
theorem mcells_len {fx : List Str} : ∀ {cs ds : List Cel} {acc : List (Str × Str)}, cs.length ≠ ds.length → mcells fx acc cs ds = none
  | [], [], _, h => absurd rfl h
  | [], _ :: _, _, _ => rfl
  | _ :: _, [], _, _ => rfl
  | a :: as, b :: bs, acc, h => by
    rw [mcells]
    cases mcell fx acc a b with
    | none => rfl
    | some x => exact mcells_len (fun e => h (by simp [e]))
theorem mrec_len {fx : List Str} : ∀ {R S : List CRow} {acc : List (Str × Str)}, R.length ≠ S.length → mrec fx acc R S = none
  | [], [], _, h => absurd rfl h
  | [], _ :: _, _, _ => rfl
  | _ :: _, [], _, _ => rfl
  | a :: as, b :: bs, acc, h => by
    rw [mrec]
    cases mrow fx acc a b with
    | none => rfl
    | some x => exact mrec_len (fun e => h (by simp [e]))
theorem mrec_at {fx : List Str} {R S : List CRow} {acc : List (Str × Str)} {i : Nat} {a b : CRow} (h1 : R[i]? = some a) (h2 : S[i]? = some b) : mrec fx acc (R.drop i) (S.drop i) = (mrow fx acc a b).bind fun acc' => mrec fx acc' (R.drop (i + 1)) (S.drop (i + 1)) := by
  obtain ⟨l1, e1⟩ := List.getElem?_eq_some_iff.mp h1
  obtain ⟨l2, e2⟩ := List.getElem?_eq_some_iff.mp h2
  rw [← List.getElem_cons_drop l1, ← List.getElem_cons_drop l2, e1, e2, mrec]
theorem mcells_at {fx : List Str} {R S : List Cel} {acc : List (Str × Str)} {i : Nat} {a b : Cel} (h1 : R[i]? = some a) (h2 : S[i]? = some b) : mcells fx acc (R.drop i) (S.drop i) = (mcell fx acc a b).bind fun acc' => mcells fx acc' (R.drop (i + 1)) (S.drop (i + 1)) := by
  obtain ⟨l1, e1⟩ := List.getElem?_eq_some_iff.mp h1
  obtain ⟨l2, e2⟩ := List.getElem?_eq_some_iff.mp h2
  rw [← List.getElem_cons_drop l1, ← List.getElem_cons_drop l2, e1, e2, mcells]
theorem mcell_inv {fx : List Str} {acc acc' : List (Str × Str)} {a b : Cel} (h : MInv fx acc) (e : mcell fx acc a b = some acc') : MInv fx acc' := (mcell_ok h e).1
theorem mcell_tt (fx : List Str) (acc : List (Str × Str)) (z y : Str) : mcell fx acc (.txt z) (.txt y) = if z ∈ fx ∨ y ∈ fx then (if z = y then some acc else none) else if (∀ q ∈ acc, (q.1 = z ↔ q.2 = y)) then some (if (z, y) ∈ acc then acc else acc ++ [(z, y)]) else none := rfl
theorem mcell_ne {fx : List Str} {acc : List (Str × Str)} {a b : Cel} (h : ¬ (a.isT = true ∧ b.isT = true)) : mcell fx acc a b = if a = b then some acc else none := by
  cases a <;> cases b <;> first | rfl | (exact absurd ⟨rfl, rfl⟩ h)
theorem mcell_few {fx : List Str} {acc acc' : List (Str × Str)} {a b : Cel} (e : mcell fx acc a b = some acc') : acc'.length ≤ acc.length + 1 := by
  have same : ∀ x y : Cel, (if x = y then some acc else none) = some acc' → acc'.length ≤ acc.length + 1 := fun x y e => by
    split at e
    · cases e; omega
    · cases e
  by_cases h : a.isT = true ∧ b.isT = true
  · cases a <;> cases b <;> first | exact absurd h.1 Bool.false_ne_true | exact absurd h.2 Bool.false_ne_true | skip
    rw [mcell_tt] at e
    split at e
    · split at e
      · cases e; omega
      · cases e
    · split at e
      · cases e
        split
        · omega
        · simp
      · cases e
  · rw [mcell_ne h] at e
    exact same a b e
theorem at_nat {α : Type} {xs : List α} {i : Nat} {v : α} (h : xs[i]? = some v) : atI xs (i : Int) = some v := by
  have l : i < xs.length := (List.getElem?_eq_some_iff.mp h).1
  unfold atI ixN
  rw [if_pos (by omega), if_pos (by omega), Int.toNat_natCast]
  exact h
section
variable {K : PySem.W.Frag} {H : Hp} {xs : List V}
theorem dp_of {α : Type} {f : α → PyData} {ys : List α} {i : Nat} {r : α} (hA : DpAll K H xs (ys.map f)) (h : ys[i]? = some r) : ∃ v, xs[i]? = some v ∧ atI xs (i : Int) = some v ∧ Dp K H v (f r) := by
  have l : i < ys.length := (List.getElem?_eq_some_iff.mp h).1
  have e := hA.len
  rw [List.length_map] at e
  have hx : xs[i]? = some (xs[i]'(by omega)) := List.getElem?_eq_getElem (by omega)
  obtain ⟨d, hd, hv⟩ := hA.at hx
  rw [List.getElem?_map, h] at hd
  cases hd
  exact ⟨_, hx, at_nat hx, hv⟩
theorem celN_tk {R : List CRow} {i : Nat} {r : CRow} (h : R[i]? = some r) : celN (R.take (i + 1)) = celN (R.take i) + (r.getD []).length := by
  rw [List.take_add_one, h]; exact celN_snoc _ _
theorem celN_take_le (R : List CRow) (i : Nat) : celN (R.take i) ≤ celN R := by
  have e : celN R = celN (R.take i) + celN (R.drop i) := by
    unfold celN
    rw [← List.sum_append, ← List.map_append, List.take_append_drop]
  omega
theorem RecOk.at {R : List CRow} {i j : Nat} {cs : List Cel} {c : Cel} (o : RecOk R) (h : R[i]? = some (some cs)) (h2 : cs[j]? = some c) : CelOk c = true := o _ (List.mem_of_getElem? h) c (List.mem_of_getElem? h2)
end
theorem mapS_getD (o : Option Str) (y : Str) : (o.map V.str).getD (.str y) = .str (o.getD y) := by cases o <;> rfl
theorem TK.frz {H : Hp} {p : Addr} {o : Obj} {u : HO} {kvs : List (Key × V)} (h : H p = some (.frz o (.dK kvs))) : TK H (L2.upd H p u) := fun b ys r => by
  have nb : b ≠ p := by
    rintro rfl
    rcases r with r | ⟨o2, r⟩ <;> rw [h] at r <;> cases r
  rcases r with r | ⟨o2, r⟩
  · exact .inl (by rw [upd_ne nb]; exact r)
  · exact .inr ⟨o2, by rw [upd_ne nb]; exact r⟩
theorem dg_frz {H : Hp} {a : Addr} {o : Obj} {prs : List (Str × Str)} {z u : Str} (h : H a = some (.frz o (.dK (dicT prs)))) (e : look prs z = some u) : DGet H a (.str z) (some (V.str u)) := by
  have v : some (V.str u) = valV (dicT prs) (Sum.inr z) := by rw [valV_dicT, e]; rfl
  exact .inl ⟨_, Sum.inr z, .inr ⟨o, h⟩, rfl, v⟩
end Tq
namespace Tq
open PySem PySem.Spec PyProof.Rows L2
section
variable {K : PySem.W.Frag} {H : Hp} {Q : VK} {a b p : Addr} {x y v : V} {xs ys : List V}
theorem dpAll_take : ∀ {xs : List V} {ds : List PyData} (n : Nat), DpAll K H xs ds → DpAll K H (xs.take n) (ds.take n)
  | _, _, 0, _ => .nil
  | [], [], n + 1, _ => .nil
  | x :: xs, d :: ds, n + 1, .cons h r => .cons h (dpAll_take n r)
theorem dpAll_drop : ∀ {xs : List V} {ds : List PyData} (n : Nat), DpAll K H xs ds → DpAll K H (xs.drop n) (ds.drop n)
  | _, _, 0, h => h
  | [], [], n + 1, _ => .nil
  | x :: xs, d :: ds, n + 1, .cons h r => dpAll_drop n r
theorem dpAll_app : ∀ {xs ys : List V} {ds es : List PyData}, DpAll K H xs ds → DpAll K H ys es → DpAll K H (xs ++ ys) (ds ++ es)
  | [], _, [], _, _, h => h
  | x :: xs, _, d :: ds, _, .cons h r, h2 => .cons h (dpAll_app r h2)
theorem dpAll_set : ∀ {xs : List V} {ds : List PyData} {v : V} {d : PyData} (n : Nat), DpAll K H xs ds → Dp K H v d → DpAll K H (xs.set n v) (ds.set n d)
  | [], [], _, _, _, _, _ => .nil
  | x :: xs, e :: ds, _, _, 0, .cons h r, g => .cons g r
  | x :: xs, e :: ds, _, _, n + 1, .cons h r, g => .cons h (dpAll_set n r g)
theorem l_catA (h1 : SqT K H a xs) (h2 : SqT K H b ys) (n : xs.length + ys.length ≤ 1000000) (q : ∀ r H', Same H H' → SqT K H' r (xs ++ ys) → Q (.ref r) H') : rCatA K (.ref a) (.ref b) H Q := by
  refine ⟨a, b, xs, ys, rfl, rfl, h1, h2, fits n, fun e => ?_, fun _ e => ?_, fun _ _ r nr => ?_⟩
  · subst e; exact q b H (fun _ _ h => h) h2
  · subst e; exact q a H (fun _ _ h => h) (by rw [List.append_nil]; exact h1)
  · exact q r _ (new_same nr) (sqT upd_same)
theorem cut_whole {lo hi : Option Int} (h : HT.sIx xs.length 0 lo = 0 ∧ HT.sIx xs.length xs.length hi = xs.length) : cutV xs lo hi = xs := by
  unfold cutV
  rw [h.1, h.2]; simp
theorem l_slA {lo hi : Option Int} (h : SqT K H a xs) (q : ∀ r H', Same H H' → SqT K H' r (cutV xs lo hi) → Q (.ref r) H') : rSlA K (.ref a) lo hi H Q := by
  refine ⟨a, xs, rfl, h, fun e => ?_, fun _ r nr => ?_⟩
  · exact q a H (fun _ _ h => h) (by rw [cut_whole e]; exact h)
  · exact q r _ (new_same nr) (sqT upd_same)
end
theorem celN_app (R S : List CRow) : celN (R ++ S) = celN R + celN S := by unfold celN; simp
theorem celN_set : ∀ {R : List CRow} {i : Nat} {r : CRow} (s : CRow), R[i]? = some r → celN (R.set i s) + (r.getD []).length = celN R + (s.getD []).length
  | [], i, _, _, h => by simp at h
  | x :: R, 0, r, s, h => by
    have e : x = r := by simpa using h
    subst e
    show celN (s :: R) + _ = celN (x :: R) + _
    unfold celN
    simp only [List.map_cons, List.sum_cons]
    omega
  | x :: R, i + 1, r, s, h => by
    have ih := celN_set (R := R) (i := i) s (by simpa using h)
    rw [List.set_cons_succ]
    unfold celN at *
    simp only [List.map_cons, List.sum_cons] at *
    omega
theorem celN_drop_le (R : List CRow) (i : Nat) : celN (R.drop i) ≤ celN R := by
  have e : celN (R.take i ++ R.drop i) = celN R := by rw [List.take_append_drop]
  rw [celN_app] at e
  omega
theorem RecOk.app {R S : List CRow} (a : RecOk R) (b : RecOk S) : RecOk (R ++ S) := fun r hr => by
  rcases List.mem_append.mp hr with h | h
  · exact a r h
  · exact b r h
theorem RecOk.sub {R S : List CRow} (a : RecOk R) (h : ∀ r ∈ S, r ∈ R) : RecOk S := fun r hr => a r (h r hr)
theorem RecOk.none1 : RecOk [none] := fun r hr c hc => by
  rw [List.mem_singleton.mp hr] at hc
  cases hc
theorem RecOk.set {R : List CRow} {i : Nat} {s : CRow} (a : RecOk R) (h : ∀ c ∈ s.getD [], CelOk c = true) : RecOk (R.set i s) := fun r hr c hc => by
  rcases List.mem_or_eq_of_mem_set hr with m | e
  · exact a r m c hc
  · rw [e] at hc; exact h c hc
/-- the lengths of the rows -/
def lens (R : List CRow) : List Int := R.filterMap fun r => r.map fun cs => (cs.length : Int)
theorem lens_sum (R : List CRow) : (lens R).sum = (celN R : Int) := by
  induction R with
  | nil => rfl
  | cons r R ih =>
    unfold celN at *
    cases r with
    | none => simpa [lens] using ih
    | some cs =>
      have e : lens (some cs :: R) = (cs.length : Int) :: lens R := rfl
      rw [e, List.sum_cons, ih]
      simp
def len1 : CRow → List Int
  | none => []
  | some cs => [(cs.length : Int)]
theorem lens_take {R : List CRow} {i : Nat} {r : CRow} (h : R[i]? = some r) : lens (R.take (i + 1)) = lens (R.take i) ++ len1 r := by
  rw [List.take_add_one, h]
  unfold lens
  rw [Option.toList_some, List.filterMap_append]
  cases r <;> rfl
theorem lens_len (R : List CRow) : (lens R).length ≤ R.length := List.length_filterMap_le ..
theorem recSub_okP {R : List CRow} {prs : List (Str × Str)} (o : RecOk R) (h : ∀ q ∈ prs, PyData.strOk q.2 = true) : RecOk (recSub (look prs) R) := by
  intro r hr c hc
  obtain ⟨s, hs, rfl⟩ := List.mem_map.mp hr
  cases s with
  | none => cases hc
  | some cs =>
    obtain ⟨u, hu, rfl⟩ := List.mem_map.mp hc
    have ou := o _ hs u hu
    cases u with
    | null => rfl
    | val n => exact ou
    | txt z =>
      show PyData.strOk ((look prs z).getD z) = true
      cases e : look prs z with
      | none => exact ou
      | some y => exact look_ok (p := fun y => PyData.strOk y = true) h e
/-- pairs of texts as data -/
def prD (q : Str × Str) : PyData := .tuple [.str q.1, .str q.2]
section
variable {K : PySem.W.Frag} {H : Hp} {Q : VK}
theorem PairsT.dp : ∀ {ps : List Addr} {prs : List (Str × Str)}, PairsT K H ps prs → DpAll K H (ps.map V.ref) (prs.map prD)
  | [], [], _ => .nil
  | p :: ps, q :: prs, h => by
    cases h with
    | cons a b => exact .cons (.tup a (.cons (.str _) (.cons (.str _) .nil))) (PairsT.dp b)
theorem pairs_can : ∀ {prs : List (Str × Str)}, (∀ q ∈ prs, PyData.strOk q.1 = true ∧ PyData.strOk q.2 = true) → PyData.canLayAll0 (prs.map prD) = true ∧ PyData.depthAll (prs.map prD) ≤ 1
  | [], _ => ⟨rfl, by decide⟩
  | q :: prs, h => by
    obtain ⟨a, b⟩ := pairs_can fun x m => h x (List.mem_cons_of_mem _ m)
    obtain ⟨c, d⟩ := h q List.mem_cons_self
    rw [List.map_cons]
    constructor
    · show (PyData.canLay0 (prD q) && PyData.canLayAll0 (prs.map prD)) = true
      rw [a]
      simp [prD, PyData.canLay0, PyData.canLayAll0, c, d]
    · show max (PyData.depth (prD q)) (PyData.depthAll (prs.map prD)) ≤ 1
      have : PyData.depth (prD q) ≤ 1 := by simp [prD, PyData.depth, PyData.depthAll]
      omega
theorem pairs_shaped {prs : List (Str × Str)} (h : ∀ q ∈ prs, PyData.strOk q.1 = true ∧ PyData.strOk q.2 = true) : SeqAt.shaped (.tuple (prs.map prD)) = true ∧ PyData.canLay0 (.tuple (prs.map prD)) = true := by
  obtain ⟨a, b⟩ := pairs_can h
  refine ⟨?_, a⟩
  show (PyData.canLayAll0 (prs.map prD) && decide (PyData.depthAll (prs.map prD) + 1 ≤ 64)) = true
  rw [a, decide_eq_true (by omega)]; rfl
theorem l_nePairs {p r : Addr} {ps rs : List Addr} {prs : List (Str × Str)} (h : ∀ q ∈ prs, PyData.strOk q.1 = true ∧ PyData.strOk q.2 = true) (h1 : SqT K H p (ps.map V.ref)) (a1 : PairsT K H ps prs) (h2 : SqT K H r (rs.map V.ref)) (a2 : PairsT K H rs prs) (q : Q (.bl false) H) : rNeD K (.ref p) (.ref r) H Q := by
  obtain ⟨s, c⟩ := pairs_shaped h
  exact ⟨_, _, .tup h1 a1.dp, .tup h2 a2.dp, s, s, by rw [PySem.SeqAt.eqv_refl _ c]; exact q⟩
end
theorem recT_ok {R : List CRow} (o : RecOk R) : ∀ z ∈ recT R, PyData.strOk z = true := by
  intro z hz
  obtain ⟨r, hr, h2⟩ := List.mem_flatMap.mp hz
  obtain ⟨c, hc, h3⟩ := List.mem_filterMap.mp h2
  have h := o r hr c hc
  cases c with
  | null => cases h3
  | val n => cases h3
  | txt y =>
    cases h3
    exact h
theorem zip_swp : ∀ (xs ys : List Str), ys.zip xs = swp (xs.zip ys)
  | [], [] => rfl
  | [], _ :: _ => rfl
  | _ :: _, [] => rfl
  | x :: xs, y :: ys => by
    rw [List.zip_cons_cons, List.zip_cons_cons, zip_swp xs ys]; rfl
end Tq
/-! any, all of a generator expression whose element runs defs. The table of a def's code object is tracked by what stays true of it. -/
namespace Gx
open PySem PySem.Spec PyProof.Rows L2 GenW
/-- a code object's table, of whatever rows -/
def TabX (P : Addr) (h : Heap) : Prop := ∃ ps : Array Value, h.get? P = some { cls := .none, data := .fields ps } ∧ TriplesOk ps.toList
def TabE (H : Hp) (P : Addr) : Prop := H P = some (.ext (TabX P))
theorem tabX_obj {Pg : Program} {w : World} {H : Hp} {h : Heap} {P : Addr} (x : TabX P h) : ObjOk Pg w H h P (.ext (TabX P)) :=
  ⟨x, (let ⟨ps, e, _⟩ := x; ⟨_, e⟩), fun h1 h2 ⟨ps, e, t⟩ k => ⟨ps, k _ e, t⟩⟩
theorem tabX_of {Pg : Program} {w : World} {H : Hp} {h : Heap} {P : Addr} (ok : HOk Pg w H h) (e : TabE H P) : TabX P h := (ok P _ e).1
theorem upd_id {H : Hp} {a : Addr} {o : HO} (e : H a = some o) : upd H a o = H := by
  funext b; unfold upd; split
  · rename_i hb; rw [hb, e]
  · rfl
/-- what a generator's frame runs under -/
abbrev gA (A : Around) (env : Env) : Around := A.in1.in1.deeper env
theorem room_g {k : Nat} {A : Around} (r : Room (k + 1) A) (env : Env) : Room k (gA A env) :=
  ⟨r.hd, by have := r.dp; show A.depth + 1 + 3 * k + 5 < _; omega, by have := r.un; show A.units + 1 + 1 + 3 + 16 * k + 200 < _; omega⟩
abbrev gCx (X : Cx) (s : Shared) (H : Hp) (cenv : Env) (fp : List Addr) (pn : List (Addr × Obj)) : Cx :=
  { X with A := gA X.A cenv, s_0 := s, H_0 := H, env := cenv, outer := X.stack, stack := cenv :: X.stack, ex := fp, fn := fun _ => false, calm := true, pn := pn, xe := fun _ _ => False }
theorem over_gl {A : Around} {elt tg iter : Expr} {ifs : List Expr} {scope : Scope} {pos : Pos} {it acc : Value} {env : Env} :
    A.over (.compLoop (.GeneratorExp elt [⟨tg, iter, ifs, 0⟩] scope pos) 0 it acc env) [] = A.deeper env := by
  first
    | rfl
    | (obtain ⟨hd, d, fr, gs, u⟩ := A; simp [Around.over, Around.deeper, marksOver, frameCount, unitsOf, envsOf, guardsOf, pushEnvs, pushGuards, Code.envs, Code.env?, Code.isFrame, Code.guards, Code.isGuard, Code.weight, Code.frames, Code.isCreation, Code.isCaller, Code.cUnits])
theorem over_gs {A : Around} {elt tg iter : Expr} {ifs : List Expr} {scope : Scope} {pos : Pos} {it acc : Value} {env : Env} :
    A.over (.compStart (.GeneratorExp elt [⟨tg, iter, ifs, 0⟩] scope pos) 0 it acc env) [] = A.deeper env := by
  first
    | rfl
    | (obtain ⟨hd, d, fr, gs, u⟩ := A; simp [Around.over, Around.deeper, marksOver, frameCount, unitsOf, envsOf, guardsOf, pushEnvs, pushGuards, Code.envs, Code.env?, Code.isFrame, Code.guards, Code.isGuard, Code.weight, Code.frames, Code.isCreation, Code.isCaller, Code.cUnits])
section
variable {X : Cx} {pins : List (Addr × Obj)} {σ : L2.St} {H : Hp} {s : Shared}
theorem inv_gens {g' : Array GenState} (I : Inv X pins σ H s) (hg : AllBare g') : Inv X pins σ H { s with gens := g' } :=
  I.call' (ch := []) rfl Un.refl I.hok hg fun b hb => absurd hb (by simp)
/-- a table has grown -/
theorem inv_grow {P : Addr} {h' : Heap} {t' : Nat} (I : Inv X pins σ H s) (e : TabE H P) (k : ∀ b o, b ≠ P → s.heap.get? b = some o → h'.get? b = some o) (x : TabX P h') : Inv X pins σ H { s with heap := h', toks := t' } := by
  have J := I.write (x := P) (e := P) (o := .ext (TabX P)) (t' := t') (h' := h') (by rw [show H P = _ from e]; trivial) (.inl rfl) k (let ⟨ps, q, _⟩ := x; ⟨_, q⟩) (tabX_obj x)
  rwa [upd_id e] at J
/-- the generator's own context begins -/
theorem gen_start {scope : Scope} {own : List (Str × Nat)} {fp : List Addr} {code : Value} {h' : Heap} {go : Obj} {G : Array GenState} {tk : Nat} {itv : Value} (hc : X.calm = true) (I : Inv X pins σ H s) (ok : BlkOk X.N X.env.scope scope own) (hN : X.N.Nodup)
    (hfp : ∀ b ∈ fp, FpOk X pins H b ∧ b < s.heap.objs.size) (hcell : ∀ y ∈ scope.names, y.2 ≠ .cell)
    (hn : h'.Ns s.heap.objs.size (fun y => if y = ".0" then some itv else none)) (hs : Heap.SameBut s.heap.objs.size (s.heap.push { cls := .type "frame", data := .dict #[] }) h') (hgo : ∀ v, go.data ≠ .cell v) (hnf : go.isFreed = false) (hG : AllBare G) :
    Inv (gCx X s H (genEnv scope (cloFrom X.env.cells scope.names []) s.heap.objs.size code builtinsNs X.env) fp [(h'.objs.size, go)]) [] (wipe σ (own.map (·.2))) H { s with gens := G, toks := tk, heap := h'.push go } := by
  generalize hC : s.heap.objs.size = C at hn hs ⊢
  generalize hce : genEnv scope (cloFrom X.env.cells scope.names []) C code builtinsNs X.env = cenv
  have hL : cenv.locals = C := by rw [← hce]; rfl
  have hcl : cenv.cells = cloFrom X.env.cells scope.names [] := by rw [← hce]; rfl
  have hsc : cenv.scope = scope := by rw [← hce]; rfl
  have hfree : ∀ y ∈ scope.names, y.2 = .free → ∃ c, X.env.cells.lookup y.1 = some c := fun y hy e => (ok.free y hy e).elim (fun k => I.ok.has _ (.inl k)) fun k => I.ok.has _ (.inr k)
  have szh : h'.objs.size = C + 1 := by rw [hs.1, Heap.size_push, hC]
  have kp0 : ∀ b o, s.heap.get? b = some o → h'.get? b = some o := fun b o e => hs.extBut b o (by rw [← hC]; exact Nat.ne_of_lt (Heap.lt_size e)) (Heap.get?_push_of_some _ e)
  have kp : ∀ b o, s.heap.get? b = some o → (h'.push go).get? b = some o := fun b o e => Heap.get?_push_of_some _ (kp0 b o e)
  have cm : ∀ {y c}, (y, c) ∈ cloFrom X.env.cells scope.names [] → X.env.cells.lookup y = some c := fun {y c} hm => by
    rcases cloFrom_mem hm with hm | ⟨h1, rfl⟩
    · cases hm
    · obtain ⟨c, q⟩ := hfree _ h1 rfl
      rw [q]; rfl
  have mem : ∀ {y c}, cenv.cells.lookup y = some c → X.env.cells.lookup y = some c := fun {y c} e => by
    rw [hcl] at e
    exact cm (PySem.mem_of_lookup e)
  have look : ∀ {y}, scope.names.lookup y = some .free → ∃ c, cenv.cells.lookup y = some c ∧ X.env.cells.lookup y = some c := fun {y} hl => by
    obtain ⟨c', e'⟩ := mem_lookup (cloFrom_has (cells := X.env.cells) (acc := []) (PySem.mem_of_lookup hl))
    rw [← hcl] at e'
    exact ⟨c', e', mem e'⟩
  have hold : ∀ b ∈ X.env.locals :: X.fs, b < C := fun b hb => by
    rw [← hC]
    rcases List.mem_cons.mp hb with rfl | hb
    · exact I.lt
    · exact Classical.byContradiction fun z => I.nofs (Nat.le_of_not_lt z) hb
  have okB : (gCx X s H cenv fp [(h'.objs.size, go)]).Ok := by
    refine ⟨I.ok.mod, by show cenv.scope.kind = _; rw [hsc]; exact ok.kind, by show cenv.globals = _; rw [← hce]; exact I.ok.glob, by show cenv.builtins = _; rw [← hce]; rfl, by show s.heap.objs.size ≤ cenv.locals; rw [hL, hC]; exact Nat.le_refl _,
      fun y z c e1 e2 => I.ok.inj y z c (mem e1) (mem e2), fun y hy => ?_, fun y c z e => (by cases z), fun _ => I.ok.hd hc, ?_, .inr ⟨rfl, ?_⟩, fun b hb => ⟨?_, fun y c e z => ?_⟩, I.bs, Nat.le_trans I.ok.bsz I.sz, fun b o e hb => ?_, fun b hb z => ?_, I.stack, I.stkFree⟩
    · show ∃ c, cenv.cells.lookup y = some c
      have key : ∀ k, cenv.kindOf y = some k → (k = .cell ∨ k = .free) → ∃ c, cenv.cells.lookup y = some c := fun k hk hk' => by
        unfold Env.kindOf at hk
        rw [hsc] at hk
        rcases hk' with rfl | rfl
        · exact absurd rfl (hcell _ (PySem.mem_of_lookup hk))
        · obtain ⟨c, h1, _⟩ := look hk
          exact ⟨c, h1⟩
      rcases hy with hy | hy
      · exact key _ hy (.inl rfl)
      · exact key _ hy (.inr rfl)
    · show (gA X.A cenv).frames = some (cenv :: X.stack)
      show (X.A.frames.map fun l => [cenv] ++ l) = _
      rw [I.ok.frames]; rfl
    · show cenv.frame = some cenv.locals
      rw [← hce]; rfl
    · show b ≠ cenv.locals
      rw [hL, ← hC]; exact Nat.ne_of_lt (hfp b hb).2
    · exact (hfp b hb).1.2.2.2.2.1 y c (mem e) z
    · rcases (hfp b hb).1.2.2.2.1 with z | z
      · exact I.ok.noex b o e z
      · exact absurd (Nat.lt_of_lt_of_le (Heap.lt_size e) (Nat.le_trans I.ok.bsz z)) (Nat.lt_irrefl _)
    · rcases List.mem_cons.mp (I.stkSub b z) with z | z
      · exact (hfp b hb).1.2.1 z
      · exact (hfp b hb).1.2.2.1 z
  refine ⟨okB, rfl, hG, Un.kept kp, ⟨_, hn.push _ |> (fun q => by show Heap.Ns _ cenv.locals _; rw [hL]; exact q), fun i y av e1 e2 e3 => ?_⟩, fun y c e => ?_, ?_, fun y c e => I.freeC y c (mem e), fun p hp => ?_, I.hok.kept kp, by rw [wipe_length]; exact I.len⟩
  · obtain ⟨e2, hne⟩ := wipe_some e2
    have hfr : scope.names.lookup y = some .free := by
      have e3 : Vis cenv.scope y := e3
      rw [hsc] at e3
      have no : ∀ k, scope.names.lookup y = some k → ¬ (k = .local ∨ k = .cell) := fun k hk hh => by
        rcases ok.own _ (PySem.mem_of_lookup hk) hh with e' | e'
        · obtain ⟨p, hp, hpy⟩ := List.mem_map.mp e'
          have q := ok.ix p hp
          have : p.1 = y := hpy
          rw [this] at q
          exact hne (List.mem_map.mpr ⟨p, hp, nodup_ix hN q e1⟩)
        · exact e' (List.mem_of_getElem? e1)
      rcases e3 with e3 | e3 | e3
      · exact absurd (.inl rfl) (no _ e3)
      · exact absurd (.inr rfl) (no _ e3)
      · exact e3
    obtain ⟨m, hm, hl⟩ := I.loc
    have hvis : Vis X.env.scope y := (ok.free _ (PySem.mem_of_lookup hfr) rfl).elim (fun k => .inr (.inl k)) (fun k => .inr (.inr k))
    obtain ⟨w, r, q⟩ := hl i y av e1 e2 hvis
    have kf : cenv.kindOf y = some .free := by unfold Env.kindOf; rw [hsc]; exact hfr
    refine ⟨w, r, .inr ⟨.inr kf, ?_⟩⟩
    obtain ⟨c, h1, h2⟩ := look hfr
    rcases q with ⟨k, _⟩ | ⟨_, c', e', z⟩
    · have k : X.env.scope.names.lookup y = some .local := k
      rcases ok.free _ (PySem.mem_of_lookup hfr) rfl with k' | k' <;> rw [show X.env.scope.names.lookup y = _ from k'] at k <;> cases k
    · rw [h2] at e'; cases e'
      exact ⟨c, h1, z.keeps kp⟩
  · obtain ⟨w, z⟩ := I.cell y c (mem e)
    exact ⟨w, z.keeps kp⟩
  · show H cenv.locals = none
    rw [hL]; exact I.hok.fresh (Nat.le_of_eq hC)
  · have hp : p = (h'.objs.size, go) := by simpa using hp
    subst hp
    refine ⟨Heap.get?_push_size _ hnf, I.hok.fresh (by rw [szh, hC]; exact Nat.le_succ _), ?_, fun z => ?_, hgo⟩
    · show h'.objs.size ≠ cenv.locals
      rw [hL, szh]; exact Nat.succ_ne_self _
    · have z2 := hold _ (I.stkSub _ z)
      rw [szh] at z2
      exact absurd z2 (Nat.not_lt.mpr (Nat.le_succ C))
end

/-! ### a run of the generator -/
section
variable {X : Cx} {pins : List (Addr × Obj)} {σ : L2.St}
/-- back in the caller's context: b is told -/
def Fin (X : Cx) (pins : List (Addr × Obj)) (σ : L2.St) (Q : VK) (b : Bool) (s : Shared) : Prop := ∃ H', Inv X pins σ H' s ∧ Q (.bl b) H'
theorem Fin.gens {Q : VK} {b : Bool} {s : Shared} {g' : Array GenState} (f : Fin X pins σ Q b s) (hg : AllBare s.gens → AllBare g') : Fin X pins σ Q b { s with gens := g' } :=
  let ⟨H', I, q⟩ := f; ⟨H', inv_gens I (hg I.bare), q⟩
theorem Fin.kept {Q : VK} {b : Bool} {s : Shared} {h' : Heap} (f : Fin X pins σ Q b s) (k : ∀ c u, s.heap.get? c = some u → h'.get? c = some u) : Fin X pins σ Q b { s with heap := h' } :=
  let ⟨H', I, q⟩ := f; ⟨H', I.kept (t' := s.toks) k, q⟩
/-- what holds between two turns: k: more turns than are left -/
def Mid (Y : Cx) (τ : L2.St) (fp : List Addr) (tn : Nat → Heap → Prop) (W : Nat → Nat → Hp → Prop) (k : Nat) (s : Shared) : Prop :=
  ∃ i m H', m < k ∧ Inv Y [] τ H' s ∧ tn i s.heap ∧ (∀ b ∈ fp, H' b = none) ∧ W i m H'
theorem Mid.gens {Y : Cx} {τ : L2.St} {fp : List Addr} {tn : Nat → Heap → Prop} {W : Nat → Nat → Hp → Prop} {k : Nat} {s : Shared} {g' : Array GenState} (f : Mid Y τ fp tn W k s) (hg : AllBare s.gens → AllBare g') : Mid Y τ fp tn W k { s with gens := g' } :=
  let ⟨i, m, H', h1, I, h2, h3, h4⟩ := f; ⟨i, m, H', h1, inv_gens I (hg I.bare), h2, h3, h4⟩
/-- a value is handed out: the wanted one (then no more is asked), or the other one -/
def YG (X : Cx) (pins : List (Addr × Obj)) (σ : L2.St) (Q : VK) (w : Bool) (Y : Cx) (τ : L2.St) (fp : List Addr) (tn : Nat → Heap → Prop) (W : Nat → Nat → Hp → Prop) : Protocol := fun k _ v s kap =>
  ∃ b, v = .bool b ∧ if b = w then Fin X pins σ Q w s else Mid Y τ fp tn W k s ∧ ∀ s', Mid Y τ fp tn W k s' → kap (.send .none) s'
abbrev RG (X : Cx) (pins : List (Addr × Obj)) (σ : L2.St) (Q : VK) (w : Bool) : GenEnd := fun n s₀ r s₁ => r = .ok .next ∧ (fun (_ : Nat) (_ s₁ : Shared) => Fin X pins σ Q (!w) s₁) n s₀ s₁
/-- what is to be known of the turns; w: the value at which the walk ends -/
def Turns (J : It) (W : Nat → Nat → Hp → Prop) (g : TG) (te : TE) (vs : List Nat) (σ : L2.St) (w : Bool) (Q : VK) : Prop := ∀ i m H, W i m H →
  (J.stop i H ∧ Q (.bl (!w)) H) ∨ (J.go i H ∧ ∀ x H', J.yld i H x H' → g x (wipe σ vs) H' fun σ2 H2 => wipe σ2 vs = wipe σ vs ∧ te σ2 H2 fun y H3 => ∃ b, y = .bl b ∧ if b = w then Q (.bl w) H3 else ∃ m', m' < m ∧ W (i + 1) m' H3)
variable {elt tg iter : Expr} {scope : Scope} {pos : Pos} {it : Addr} {cenv : Env} {own : List (Str × Nat)} {fp : List Addr} {tn : Nat → Heap → Prop} {J : It} {W : Nat → Nat → Hp → Prop} {g : TG} {te : TE} {w : Bool} {Q : VK} {s₁ : Shared} {H₁ : Hp} {pn : List (Addr × Obj)}
theorem seg_turns (hco : cenv.scope.isCoroutine = false) (I₁ : Inv X pins σ H₁ s₁) (hF : ∀ b ∈ fp, FpOk X pins H₁ b) (T : Turn X.prog X.w X.K tg J fp it tn) (hpn : ∀ p ∈ pn, p.1 ∉ fp)
    (pg : PG (gCx X s₁ H₁ cenv fp pn) tg g) (pe : PE (gCx X s₁ H₁ cenv fp pn) elt te) (tr : Turns J W g te (own.map (·.2)) σ w Q) :
    ∀ (n : Nat) (s₀ s : Shared), Mid (gCx X s₁ H₁ cenv fp pn) (wipe σ (own.map (·.2))) fp tn W n s →
      Seg (model X.prog X.w) X.A.in1.in1 (RG X pins σ Q w) (YG X pins σ Q w (gCx X s₁ H₁ cenv fp pn) (wipe σ (own.map (·.2))) fp tn W) n s₀
        (.compLoop (.GeneratorExp elt [⟨tg, iter, [], 0⟩] scope pos) 0 (.ref it) .none cenv) ((model X.prog X.w).den (.compLoop (.GeneratorExp elt [⟨tg, iter, [], 0⟩] scope pos) 0 (.ref it) .none cenv)) [] s := by
  -- out of the generator's context
  have out : ∀ {τ : L2.St} {H' : Hp} {s' : Shared} {pl : List (Addr × Obj)}, Inv (gCx X s₁ H₁ cenv fp pn) pl τ H' s' → Inv X pins σ H' s' := fun {τ H' s' pl} I' =>
    I₁.call' (ch := fp) I'.os I'.base I'.hok I'.bare fun b hb => ⟨(hF b hb).2.2.2.1, (hF b hb).2.1, (hF b hb).2.2.2.2.1, (hF b hb).2.2.2.2.2⟩
  have stat : ∀ {τ : L2.St} {H' : Hp} {s' : Shared}, Inv (gCx X s₁ H₁ cenv fp pn) [] τ H' s' → (∀ b ∈ fp, H' b = none) → ∀ b ∈ fp, FpOk (gCx X s₁ H₁ cenv fp pn) [] H' b := fun {τ H' s'} I' hn b hb =>
    ⟨hn b hb, (I'.ok.exf b hb).1, I'.ok.exfs b hb, .inl hb, fun x c e => (I'.ok.exf b hb).2 x c e, fun p hp e => hpn p (by simpa using hp) (by rw [e]; exact hb)⟩
  intro n
  induction n with
  | zero => intro s₀ s ⟨_, _, _, h, _⟩; exact absurd h (Nat.not_lt_zero _)
  | succ n ih =>
    intro s₀ s ⟨i, m, H5, hm, I5, st5, n5, w5⟩
    show Seg _ _ _ _ _ s₀ _ ((compTurn (.GeneratorExp elt [⟨tg, iter, [], 0⟩] scope pos) 0 (.ref it) .none cenv).onRaise (leaving cenv)) [] s
    rw [compTurn_gen, Sem.onRaise_eq_wrap]
    refine seg_bind_wrap (wpAny_standAt ?_)
    rcases tr i m H5 w5 with ⟨stop, qq⟩ | ⟨go, step⟩
    · have td := T.done (gCx X s₁ H₁ cenv fp pn) rfl rfl rfl rfl i [] s _ H5 (fun _ _ => False) I5 (stat I5 n5) st5 stop
      refine seg_bind_wrap ?_
      rw [over_gl]
      refine thnF td fun r s6 ⟨hr, I6⟩ => ?_
      subst hr
      exact seg_end (.ok .next) ⟨rfl, H5, out I6, qq⟩
    · have ti := T.item (gCx X s₁ H₁ cenv fp pn) rfl rfl rfl rfl i [] s _ H5 (fun _ _ => False) I5 (stat I5 n5) st5 go
      refine seg_bind_wrap ?_
      rw [over_gl]
      refine thnF ti fun r s6 ⟨u, hr, h6⟩ => ?_
      subst hr
      refine seg_bind_wrap ?_
      rw [over_gl]
      refine thnF h6 fun _ s7 ⟨x, H7, I7, r7, y7, st7, n7⟩ => ?_
      have I7' := I7.pinned (stat I7 n7) (T.obj _ _ st7)
      refine seg_bind_wrap ?_
      rw [over_gl]
      refine thnF (pg.run _ s7 _ H7 x u _ I7' r7 (step x H7 y7)) fun _ s8 ⟨σ8, H8, I8, hw8, q8⟩ => ?_
      refine seg_bind_wrap ?_
      simp only [List.forIn_nil]
      refine wpAny_pure ?_
      simp only [if_true]
      have hy : ∀ v, yieldOut cenv v = yieldValue v := fun v => by simp only [yieldOut, hco, Bool.false_eq_true, if_false]
      simp only [hy]
      rw [Sem.bind_eq_wrap', Sem.bind_eq_wrap', Sem.wrap_wrap, Sem.wrap_wrap]
      refine seg_wrap ?_
      rw [over_gl]
      refine thnF (pe.run _ s8 σ8 H8 _ I8 q8) fun z s9 ⟨yv, H9, I9, r9, b, eb, q9⟩ => ?_
      subst eb
      cases r9
      refine seg_at (seg_yield rfl rfl rfl ⟨b, rfl, ?_⟩)
      by_cases hb : b = w
      · rw [if_pos hb] at q9 ⊢
        exact ⟨H9, out I9, q9⟩
      · rw [if_neg hb] at q9 ⊢
        obtain ⟨m', hm', w9⟩ := q9
        have pin' : ∀ c ∈ fp, ∀ o, s7.heap.get? c = some o → s9.heap.get? c = some o ∧ H9 c = none := fun c hc o e =>
          let z := I9.pin (c, o) (List.mem_append_right _ (List.mem_append_right _ (mem_pinsAt hc e)))
          ⟨z.1, z.2.1⟩
        have hl : (wipe σ (own.map (·.2))).length = σ8.length := by rw [← hw8, wipe_length]
        refine ⟨⟨i + 1, m', H9, by omega, (I9.unpinned (pins := [])).weak hl (fun j v e => ?_), T.keep _ _ _ st7 fun c hc o e => (pin' c hc o e).1, fun c hc => ?_, w9⟩, fun s' h' => ?_⟩
        · rw [← hw8] at e
          exact (wipe_some e).1
        · obtain ⟨o, e, _⟩ := T.obj _ _ st7 c hc
          exact (pin' c hc o e).2
        · exact seg_again rfl (ih _ _ h')
theorem seg_begin (hco : cenv.scope.isCoroutine = false) (I₁ : Inv X pins σ H₁ s₁) (hF : ∀ b ∈ fp, FpOk X pins H₁ b) (T : Turn X.prog X.w X.K tg J fp it tn) (hpn : ∀ p ∈ pn, p.1 ∉ fp)
    (pg : PG (gCx X s₁ H₁ cenv fp pn) tg g) (pe : PE (gCx X s₁ H₁ cenv fp pn) elt te) (tr : Turns J W g te (own.map (·.2)) σ w Q)
    (n : Nat) (s₀ s : Shared) (h : Mid (gCx X s₁ H₁ cenv fp pn) (wipe σ (own.map (·.2))) fp tn W n s) :
      Seg (model X.prog X.w) X.A.in1.in1 (RG X pins σ Q w) (YG X pins σ Q w (gCx X s₁ H₁ cenv fp pn) (wipe σ (own.map (·.2))) fp tn W) n s₀
        (.compStart (.GeneratorExp elt [⟨tg, iter, [], 0⟩] scope pos) 0 (.ref it) .none cenv) ((model X.prog X.w).den (.compStart (.GeneratorExp elt [⟨tg, iter, [], 0⟩] scope pos) 0 (.ref it) .none cenv)) [] s := by
  have loop := seg_turns (iter := iter) (scope := scope) (pos := pos) hco I₁ hF T hpn pg pe tr n s₀ s h
  have slf : ∀ (A : Around) (R : Value → Shared → Prop) (E : Value → Shared → Prop), R (.ref it) s → wpAny (model X.prog X.w) A (pyIter (.ref it)) R E s := fun A R E q => by
    obtain ⟨i, m, H', _, _, st, _, _⟩ := h
    exact T.self A i s R E st q
  show Seg _ _ _ _ _ s₀ _ ((compStart (.GeneratorExp elt [⟨tg, iter, [], 0⟩] scope pos) 0 (.ref it) .none cenv).onRaise (leaving cenv)) [] s
  unfold compStart
  rw [Sem.onRaise_eq_wrap]
  show Seg _ _ _ _ _ s₀ _ ((ask >>= _).wrap _ _ _ _) [] s
  refine seg_bind_wrap (wpAny_askSetting ?_)
  split
  · exact seg_again rfl loop
  · first
      | exact seg_bind_wrap (wpAny_rule (seg_bind_wrap (wpAny_standAt (seg_bind_wrap (slf _ _ _ (seg_again rfl loop))))))
      | (refine seg_bind_wrap (wpAny_rule ?_)
         show Seg _ _ _ _ _ s₀ _ ((standAt iter.pos >>= _).wrap _ _ _ _) [] s
         exact seg_bind_wrap (wpAny_standAt (seg_bind_wrap (slf _ _ _ (seg_again rfl loop)))))
end
end Gx

namespace Gx
open PySem PySem.Spec PyProof.Rows L2 GenW
section
variable {X : Cx} {pins : List (Addr × Obj)} {σ : L2.St} {fp : List Addr} {tn : Nat → Heap → Prop} {W : Nat → Nat → Hp → Prop} {w : Bool} {Q : VK} {Y : Cx} {τ : L2.St}
/-- the generator a, its state at the place g, ready for k turns or fewer -/
def Rdy (X : Cx) (pins : List (Addr × Obj)) (σ : L2.St) (Q : VK) (w : Bool) (Y : Cx) (τ : L2.St) (fp : List Addr) (tn : Nat → Heap → Prop) (W : Nat → Nat → Hp → Prop) (a : Addr) (g : Nat) (k : Nat) (s : Shared) : Prop :=
  s.heap.IsGen a g ∧ s.heap.NoLimit ∧ ∃ gs, s.gens[g]? = some gs ∧ gs.Goes (model X.prog X.w) X.A.in1.in1 (RG X pins σ Q w) (YG X pins σ Q w Y τ fp tn W) k (.send .none) (s.setGen g .running)
theorem bare_set {s : Shared} {g : Nat} {x : GenState} (hx : x.bare = true) : AllBare s.gens → AllBare (s.setGen g x).gens := fun h => allBare_setGen h hx
/-- next(a) -/
theorem next_rdy {a : Addr} {g k : Nat} {s : Shared} (hh : X.A.handled = none) (hd : X.A.depth < recursionLimit) (hI : ∀ s', Mid Y τ fp tn W (k - 1) s' → s'.heap.IsGen a g ∧ s'.heap.NoLimit) (h : Rdy X pins σ Q w Y τ fp tn W a g k s) :
    wpAny (model X.prog X.w) X.A.in1 (pyNext (.ref a)) (fun r s' => match r with
      | none => Fin X pins σ Q (!w) s'
      | some v => ∃ b, v = .bool b ∧ if b = w then Fin X pins σ Q w s' else ∃ j, j < k ∧ Rdy X pins σ Q w Y τ fp tn W a g j s') (fun _ _ => False) s := by
  obtain ⟨hg, hl, gs, hgs, hgo⟩ := h
  have hgl : g + 1 ≤ s.gens.size := (Array.getElem?_eq_some_iff.mp hgs).1
  refine wpAny_mono (E := fun _ _ => False) (wpAny_gsz hgl (wpAny_pyNext_genexpQ (A := X.A.in1) (P := fun _ _ s₁ => Fin X pins σ Q (!w) s₁) hh hl hd hg hgs hgo (Q := fun r s' => g + 1 ≤ s'.gens.size → match r with
      | none => Fin X pins σ Q (!w) s'
      | some v => ∃ b, v = .bool b ∧ if b = w then Fin X pins σ Q w s' else ∃ j, j < k ∧ Rdy X pins σ Q w Y τ fp tn W a g j s') (E := fun _ s' => g + 1 ≤ s'.gens.size → False) (fun v s₁ gs' hb hv hsz => ?_) (fun s₁ hp h' hk _ => ?_))) (fun _ _ q => q) fun _ _ q => q
  · obtain ⟨b, rfl, hv⟩ := hv
    refine ⟨b, rfl, ?_⟩
    by_cases e : b = w
    · rw [if_pos e] at hv ⊢
      exact Fin.gens hv (bare_set hb)
    · rw [if_neg e] at hv ⊢
      obtain ⟨mid, nxt⟩ := hv
      have hsz1 : g < s₁.gens.size := by rw [setGen_size] at hsz; exact hsz
      cases k with
      | zero => exact (nxt _ mid).elim
      | succ k =>
        refine ⟨k, Nat.lt_succ_self _, (hI _ mid).1, (hI _ mid).2, gs', setGen_at hsz1, ?_⟩
        exact nxt _ (Mid.gens (Mid.gens mid (bare_set hb)) (bare_set (s := s₁.setGen g gs') (by rfl)))
  · exact Fin.kept (Fin.gens hp (bare_set (g := g) (x := .finished) (by rfl))) hk
theorem all_go {a : Addr} {g : Nat} {R : Result → Shared → Prop} (hh : X.A.handled = none) (hd : X.A.depth < recursionLimit) (hI : ∀ k s', Mid Y τ fp tn W k s' → s'.heap.IsGen a g ∧ s'.heap.NoLimit)
    (hR : ∀ b s', Fin X pins σ Q b s' → R (.ok (.ret (.bool b))) s') : ∀ (k : Nat) (s : Shared), Rdy X pins σ Q false Y τ fp tn W a g k s → codeAny (model X.prog X.w) X.A (.builtin "all.loop" ⟨[.ref a], []⟩) R s := by
  intro k
  induction k using Nat.strongRecOn with
  | ind k ih =>
    intro s h
    refine codeAny_builtin F.entry_all_loop ?_
    rw [Around.under_plainId F.plain_all_loop _]
    show wpAny _ X.A.in1 (pyNext (.ref a) >>= _) _ _ s
    refine wpAny_bind (thnF (next_rdy hh hd (hI _) h) fun r s' hr => ?_)
    cases r with
    | none => exact wpAny_bind (wpAny_rule (wpAny_pure (hR true s' hr)))
    | some v =>
      obtain ⟨b, rfl, hr⟩ := hr
      refine wpAny_bind (wpAny_holding (wpAny_truthy_bool ?_))
      refine wpAny_bind (wpAny_letGo ?_)
      cases b with
      | false =>
        rw [if_pos rfl] at hr
        simp only [Bool.not_false, Bool.false_eq_true, if_false, if_true]
        first
          | exact wpAny_pure (hR false s' hr)
          | exact wpAny_bind (wpAny_rule (wpAny_pure (hR false s' hr)))
      | true =>
        rw [if_neg (by decide)] at hr
        obtain ⟨j, hj, hr⟩ := hr
        simp only [Bool.not_true, Bool.false_eq_true, if_false, if_true]
        exact wpAny_pure ⟨plainId_quiet F.plain_all_loop _, ih j hj s' hr⟩
theorem any_go {a : Addr} {g : Nat} {R : Result → Shared → Prop} (hh : X.A.handled = none) (hd : X.A.depth < recursionLimit) (hI : ∀ k s', Mid Y τ fp tn W k s' → s'.heap.IsGen a g ∧ s'.heap.NoLimit)
    (hR : ∀ b s', Fin X pins σ Q b s' → R (.ok (.ret (.bool b))) s') : ∀ (k : Nat) (s : Shared), Rdy X pins σ Q true Y τ fp tn W a g k s → codeAny (model X.prog X.w) X.A (.builtin "any.loop" ⟨[.ref a], []⟩) R s := by
  intro k
  induction k using Nat.strongRecOn with
  | ind k ih =>
    intro s h
    refine codeAny_builtin F.entry_any_loop ?_
    rw [Around.under_plainId F.plain_any_loop _]
    show wpAny _ X.A.in1 (pyNext (.ref a) >>= _) _ _ s
    refine wpAny_bind (thnF (next_rdy hh hd (hI _) h) fun r s' hr => ?_)
    cases r with
    | none => exact wpAny_bind (wpAny_rule (wpAny_pure (hR false s' hr)))
    | some v =>
      obtain ⟨b, rfl, hr⟩ := hr
      refine wpAny_bind (wpAny_holding (wpAny_truthy_bool ?_))
      refine wpAny_bind (wpAny_letGo ?_)
      cases b with
      | true =>
        rw [if_pos rfl] at hr
        simp only [Bool.not_true, Bool.false_eq_true, if_false, if_true]
        first
          | exact wpAny_pure (hR true s' hr)
          | exact wpAny_bind (wpAny_rule (wpAny_pure (hR true s' hr)))
      | false =>
        rw [if_neg (by decide)] at hr
        obtain ⟨j, hj, hr⟩ := hr
        simp only [Bool.not_false, Bool.false_eq_true, if_false, if_true]
        exact wpAny_pure ⟨plainId_quiet F.plain_any_loop _, ih j hj s' hr⟩
end
section
variable {X : Cx} {pins : List (Addr × Obj)} {σ : L2.St} {H : Hp} {s : Shared}
/-- the scope of a generator expression -/
structure GSc (scope : Scope) : Prop where
  kind : scope.kind = .function
  co : scope.isCoroutine = false
  cell : ∀ y ∈ scope.names, y.2 ≠ .cell
  dot : scope.names.lookup (".0" : Str) = some NameKind.local
def tGen (P : Addr) (w : Bool) (wi : TI) (g : TG) (te : TE) (vs : List Nat) : TE := fun σ H Q => wi σ H fun J H1 => TabE H1 P ∧ ∃ W : Nat → Nat → Hp → Prop, (∃ m, W 0 m H1) ∧ Turns J W g te vs σ w Q
/-- the generator is made, ready to be walked -/
theorem gen_made {c P : Addr} {elt iter tg : Expr} {gpos : Pos} {scope : Scope} {own : List (Str × Nat)} {wi : TI} {g : TG} {te : TE} {w : Bool} {j k : Nat} {Q : VK} {Q' : Value → Shared → Prop}
    (hr : Room j X.A) (hk : k + 1 ≤ j) (hc : X.calm = true) (hd : PySem.W.codeHdIn X.K c P = true) (bs : X.base.BuiltinsAt X.mg P ∧ mainGlobals ≠ P) (hcode : X.env.code = .ref c) (S : GSc scope) (hN : X.N.Nodup) (hi : PI X tg iter wi) (ok : BlkOk X.N X.env.scope scope own)
    (hg : ∀ (s : Shared) (H : Hp) (C : Addr) (cl : List (Str × Addr)) (fp : List Addr) (code : Value) (pn : List (Addr × Obj)), PG (gCx X s H (genEnv scope cl C code builtinsNs X.env) fp pn) tg g)
    (he : ∀ (s : Shared) (H : Hp) (C : Addr) (cl : List (Str × Addr)) (fp : List Addr) (code : Value) (pn : List (Addr × Obj)), Room k (gCx X s H (genEnv scope cl C code builtinsNs X.env) fp pn).A → PE (gCx X s H (genEnv scope cl C code builtinsNs X.env) fp pn) elt te)
    (hs : ∀ v, genFold iter X.env v = pure v) (I : Inv X pins σ H s) (h : tGen P w wi g te (own.map (·.2)) σ H Q)
    (hQ : ∀ a s5 gg Y τ fp tn W kk, Rdy X pins σ Q w Y τ fp tn W a gg kk s5 → (∀ k s', Mid Y τ fp tn W k s' → s'.heap.IsGen a gg ∧ s'.heap.NoLimit) → s5.TypeIs (.ref a) "generator" → Q' (.ref a) s5) :
    wpAny (model X.prog X.w) X.A (eval (.GeneratorExp elt [⟨tg, iter, [], 0⟩] scope gpos) X.env) Q' X.xe s := by
  have TB : GxR.TabB X.base X.mg c P := ⟨PySem.W.codeHd_of_K I.ok.mod.kin hd, bs.1, bs.2⟩
  have hfree : ∀ y ∈ scope.names, y.2 = .free → ∃ c, X.env.cells.lookup y.1 = some c := fun y hy e => (ok.free y hy e).elim (fun k => I.ok.has _ (.inl k)) fun k => I.ok.has _ (.inr k)
  refine wpAny_GeneratorExp_make S.co (closure_ok hfree) S.cell S.dot S.kind (by have := hr.dp; omega) ?_ hs
  refine thn (hi.run pins s σ H _ I h) fun xv s1 hx => thn hx fun itv s2 h2 => ?_
  obtain ⟨it, fp, tn, J, H2, rfl, I2, T, st2, f2, tab, W, ⟨m0, w0⟩, tr⟩ := h2
  have lim2 : s2.heap.NoLimit := I2.nolimit
  refine ⟨lim2, ?_⟩
  obtain ⟨ps, hP, ht⟩ := tabX_of I2.hok tab
  have cd : PySem.W.CodeHd s2.heap c P := TB.code.keeps fun b u e => I2.bk b u e
  have cont : ∀ (code : Value) (h3 : Heap) (tk : Nat) (ps' : Array Value), Heap.ExtBut P s2.heap h3 → h3.get? P = some { cls := .none, data := .fields ps' } → TriplesOk ps'.toList →
      wpAny (model X.prog X.w) X.A (builtinsFor X.env.globals X.env.builtins) (fun bi s₄ => ∀ h', h'.Ns s₄.heap.objs.size (fun y => if y = ".0" then some (.ref it) else none) → Heap.SameBut s₄.heap.objs.size (s₄.heap.push { cls := .type "frame", data := .dict #[] }) h' →
          Q' (.ref h'.objs.size) { s₄ with
            gens := s₄.gens.push (.fresh (.compStart (.GeneratorExp elt [⟨tg, iter, [], 0⟩] scope gpos) 0 (.ref it) .none (genEnv scope (cloFrom X.env.cells scope.names []) s₄.heap.objs.size code bi X.env))),
            toks := s₄.toks + 1 + 1 + 1,
            heap := h'.push { cls := .type "generator", data := .fields #[.int s₄.gens.size 0, .str "<genexpr>" (s₄.toks + 1), .str (X.env.qual ++ "<genexpr>") (s₄.toks + 1 + 1)] } }) X.xe { s2 with heap := h3, toks := tk } := by
    intro code h3 tk ps' hx hP3 ht3
    obtain ⟨bm, ob, e1, e2, e3, e4, e5, e6, e7, e8⟩ := TB.bm
    have I3 : Inv X pins σ H2 { s2 with heap := h3, toks := tk } := inv_grow I2 tab (fun b o hb e => hx b o hb e) ⟨ps', hP3, ht3⟩
    refine wpAny_builtinsFor (m := X.mg) (by rw [I3.ok.glob]; exact (I2.mod.glob.keeps I2.bk).extBut hx TB.gP) e1 e2 (hx _ _ e4 (I2.bk _ _ e5)) e6 e7 e8 ?_
    intro h' hn' hs'
    have f3 : ∀ b ∈ fp, FpOk X pins H2 b ∧ b < h3.objs.size := fun b hb => by
      obtain ⟨o, e, _⟩ := T.obj _ _ st2 b hb
      refine ⟨f2 b hb, Heap.lt_size (hx b o (fun z => ?_) e)⟩
      have q := (f2 b hb).1
      rw [z, show H2 P = _ from tab] at q
      cases q
    have st3 : tn 0 h3 := T.keep _ _ _ st2 fun b hb o e => hx b o (fun z => by
      have q := (f2 b hb).1
      rw [z, show H2 P = _ from tab] at q
      cases q) e
    generalize hgo : ({ cls := .type "generator", data := .fields #[.int s2.gens.size 0, .str "<genexpr>" (tk + 1), .str (X.env.qual ++ "<genexpr>") (tk + 1 + 1)] } : Obj) = go
    have hgd : ∀ v, go.data ≠ .cell v := fun v q => by rw [← hgo] at q; cases q
    have hgf : go.isFreed = false := by rw [← hgo]; rfl
    generalize hce : genEnv scope (cloFrom X.env.cells scope.names []) h3.objs.size code builtinsNs X.env = cenv
    have pg := hg { s2 with heap := h3, toks := tk } H2 h3.objs.size (cloFrom X.env.cells scope.names []) fp code [(h'.objs.size, go)]
    have pe := he { s2 with heap := h3, toks := tk } H2 h3.objs.size (cloFrom X.env.cells scope.names []) fp code [(h'.objs.size, go)] (room_g (hr.mono hk) _)
    rw [hce] at pg pe
    have I5 := gen_start (tk := tk + 1 + 1 + 1) (code := code) (itv := .ref it) (go := go) (G := s2.gens.push (.fresh (.compStart (.GeneratorExp elt [⟨tg, iter, [], 0⟩] scope gpos) 0 (.ref it) .none cenv))) hc I3 ok hN f3 S.cell hn' hs' hgd hgf (I2.bare.push rfl)
    rw [hce] at I5
    have szh : h'.objs.size = h3.objs.size + 1 := by rw [hs'.1, Heap.size_push]
    have kp5 : ∀ b o, h3.get? b = some o → (h'.push go).get? b = some o := fun b o e => Heap.get?_push_of_some _ (hs'.extBut b o (Nat.ne_of_lt (Heap.lt_size e)) (Heap.get?_push_of_some _ e))
    have gen : ∀ {h : Heap}, h.get? h'.objs.size = some go → h.IsGen h'.objs.size s2.gens.size := fun {h} e => ⟨go, _, _, e, by rw [← hgo], by rw [← hgo], by rw [← hgo]⟩
    have hsc : cenv.scope = scope := by rw [← hce]; rfl
    have hpn : ∀ p ∈ [(h'.objs.size, go)], p.1 ∉ fp := fun p hp z => by
      have hp : p = (h'.objs.size, go) := by simpa using hp
      have := (f3 _ z).2
      rw [hp, szh] at this
      exact absurd this (Nat.not_lt.mpr (Nat.le_succ _))
    have gat : (h'.push go).get? h'.objs.size = some go := Heap.get?_push_size _ hgf
    have hfr : ∀ {k : Nat} {s' : Shared}, Mid (gCx X { s2 with heap := h3, toks := tk } H2 cenv fp [(h'.objs.size, go)]) (wipe σ (own.map (·.2))) fp tn W k s' → s'.heap.IsGen h'.objs.size s2.gens.size ∧ s'.heap.NoLimit := fun {k s'} ⟨_, _, _, _, I', _⟩ =>
      ⟨gen (I'.pin (h'.objs.size, go) (List.mem_append_left _ (List.mem_singleton.mpr rfl))).1, I'.nolimit⟩
    have mid : Mid (gCx X { s2 with heap := h3, toks := tk } H2 cenv fp [(h'.objs.size, go)]) (wipe σ (own.map (·.2))) fp tn W (m0 + 1) { s2 with gens := s2.gens.push (.fresh (.compStart (.GeneratorExp elt [⟨tg, iter, [], 0⟩] scope gpos) 0 (.ref it) .none cenv)), toks := tk + 1 + 1 + 1, heap := h'.push go } :=
      ⟨0, m0, H2, Nat.lt_succ_self _, I5, T.keep _ _ _ st3 fun b _ o e => kp5 b o e, fun b hb => (f2 b hb).1, w0⟩
    refine hQ _ _ s2.gens.size _ _ _ _ _ (m0 + 1) ⟨(hfr mid).1, (hfr mid).2, _, Array.getElem?_push_size .., rfl, ?_⟩ (fun _ _ q => hfr q) (Heap.IsGen.typeIs (hfr mid).1)
    exact seg_begin (by rw [hsc]; exact S.co) I3 f2 T hpn pg pe tr _ _ _ (Mid.gens mid (bare_set (by rfl)))
  cases hf : codeAmong gpos ps.toList with
  | none =>
    refine wpAny_genexprCodeX hcode (cd.code hP ht) (cd.tab hP) hf fun c' h' tk hx hge hlt hco' _ htab' _ => ?_
    obtain ⟨o1, vs, f1, tf, fl, tg', inF, tx, tt, op, _, _, _, _, _, _, _, _, _, htr, _⟩ := hco'
    exact cont _ h' tk _ hx htab'.2 htr
  | some cv =>
    refine wpAny_genexprCode_hit hcode (cd.code hP ht) hf ?_
    exact cont cv s2.heap s2.toks ps (Heap.ExtBut.refl _ _) hP ht
theorem pe_allG {c P : Addr} {elt iter tg : Expr} {p pos gpos : Pos} {scope : Scope} {own : List (Str × Nat)} {wi : TI} {g : TG} {te : TE} {j k : Nat}
    (hr : Room j X.A) (hk : k + 1 ≤ j) (hG : Gl X "all") (hm : X.mg "all" = none) (hb : bootBuiltins "all" = some (.builtin "all")) (hc : X.calm = true) (hd : PySem.W.codeHdIn X.K c P = true) (bs : X.base.BuiltinsAt X.mg P ∧ mainGlobals ≠ P) (hcode : X.env.code = .ref c) (S : GSc scope) (hN : X.N.Nodup) (hi : PI X tg iter wi) (ok : BlkOk X.N X.env.scope scope own)
    (hg : ∀ (s : Shared) (H : Hp) (C : Addr) (cl : List (Str × Addr)) (fp : List Addr) (code : Value) (pn : List (Addr × Obj)), PG (gCx X s H (genEnv scope cl C code builtinsNs X.env) fp pn) tg g)
    (he : ∀ (s : Shared) (H : Hp) (C : Addr) (cl : List (Str × Addr)) (fp : List Addr) (code : Value) (pn : List (Addr × Obj)), Room k (gCx X s H (genEnv scope cl C code builtinsNs X.env) fp pn).A → PE (gCx X s H (genEnv scope cl C code builtinsNs X.env) fp pn) elt te)
    (hs : ∀ v, genFold iter X.env v = pure v := by intro _; rfl)
    (hse : starEach [.GeneratorExp elt [⟨tg, iter, [], 0⟩] scope gpos] X.env = (false, eval (.GeneratorExp elt [⟨tg, iter, [], 0⟩] scope gpos) X.env) :: starEach [] X.env := by rfl) :
    PE X (.Call (.Name "all" p) [.GeneratorExp elt [⟨tg, iter, [], 0⟩] scope gpos] [] pos) (tGen P false wi g te (own.map (·.2))) := by
  refine ⟨fun pins s σ H Q I h => ?_⟩
  refine wpAny_Call_Name_kw (ld_blt I hG hm hb ?_)
  refine PyProof.Rows.callWith_builtin1 ?_ hse (by rfl)
  rw [hse]
  show wpAny _ _ (spliced ((false, eval (.GeneratorExp elt [⟨tg, iter, [], 0⟩] scope gpos) X.env) :: backTo pos (starEach [] X.env))) _ _ s
  refine Calls.spliced_cons (gen_made hr hk hc hd bs hcode S hN hi ok hg he hs I h fun a s5 gg Y τ fp tn W kk hR hI hty => ?_)
  refine Calls.spliced_nil ?_
  refine call_function_tree F.kind_all F.plain_all F.entry_all (F.args_all1 _) ?_
  unfold Builtin.«all»
  refine wpAny_bind (m := oneArg "all" _) (wpAny_pure ?_)
  refine wpAny_bind (wpAny_pyIter_gen hR.1 (wpAny_pure ⟨plainId_quiet F.plain_all_loop _, ?_⟩))
  exact all_go hr.hd (by have := hr.dp; omega) hI (fun b s' ⟨H', I', q⟩ => ⟨.bl b, H', I', rfl, q⟩) kk s5 hR
theorem pe_anyG {c P : Addr} {elt iter tg : Expr} {p pos gpos : Pos} {scope : Scope} {own : List (Str × Nat)} {wi : TI} {g : TG} {te : TE} {j k : Nat}
    (hr : Room j X.A) (hk : k + 1 ≤ j) (hG : Gl X "any") (hm : X.mg "any" = none) (hb : bootBuiltins "any" = some (.builtin "any")) (hc : X.calm = true) (hd : PySem.W.codeHdIn X.K c P = true) (bs : X.base.BuiltinsAt X.mg P ∧ mainGlobals ≠ P) (hcode : X.env.code = .ref c) (S : GSc scope) (hN : X.N.Nodup) (hi : PI X tg iter wi) (ok : BlkOk X.N X.env.scope scope own)
    (hg : ∀ (s : Shared) (H : Hp) (C : Addr) (cl : List (Str × Addr)) (fp : List Addr) (code : Value) (pn : List (Addr × Obj)), PG (gCx X s H (genEnv scope cl C code builtinsNs X.env) fp pn) tg g)
    (he : ∀ (s : Shared) (H : Hp) (C : Addr) (cl : List (Str × Addr)) (fp : List Addr) (code : Value) (pn : List (Addr × Obj)), Room k (gCx X s H (genEnv scope cl C code builtinsNs X.env) fp pn).A → PE (gCx X s H (genEnv scope cl C code builtinsNs X.env) fp pn) elt te)
    (hs : ∀ v, genFold iter X.env v = pure v := by intro _; rfl)
    (hse : starEach [.GeneratorExp elt [⟨tg, iter, [], 0⟩] scope gpos] X.env = (false, eval (.GeneratorExp elt [⟨tg, iter, [], 0⟩] scope gpos) X.env) :: starEach [] X.env := by rfl) :
    PE X (.Call (.Name "any" p) [.GeneratorExp elt [⟨tg, iter, [], 0⟩] scope gpos] [] pos) (tGen P true wi g te (own.map (·.2))) := by
  refine ⟨fun pins s σ H Q I h => ?_⟩
  refine wpAny_Call_Name_kw (ld_blt I hG hm hb ?_)
  refine PyProof.Rows.callWith_builtin1 ?_ hse (by rfl)
  rw [hse]
  show wpAny _ _ (spliced ((false, eval (.GeneratorExp elt [⟨tg, iter, [], 0⟩] scope gpos) X.env) :: backTo pos (starEach [] X.env))) _ _ s
  refine Calls.spliced_cons (gen_made hr hk hc hd bs hcode S hN hi ok hg he hs I h fun a s5 gg Y τ fp tn W kk hR hI hty => ?_)
  refine Calls.spliced_nil ?_
  refine call_function_tree F.kind_any F.plain_any F.entry_any (F.args_any1 _) ?_
  unfold Builtin.«any»
  refine wpAny_bind (m := oneArg "any" _) (wpAny_pure ?_)
  refine wpAny_bind (wpAny_pyIter_gen hR.1 (wpAny_pure ⟨plainId_quiet F.plain_any_loop _, ?_⟩))
  exact any_go hr.hd (by have := hr.dp; omega) hI (fun b s' ⟨H', I', q⟩ => ⟨.bl b, H', I', rfl, q⟩) kk s5 hR
end
end Gx
/-! The data layer: what a def does to plain data, without a heap. Env: a value for each slot. -/
namespace Mx
open PySem PySem.Spec PyProof.Rows L2 Tq
/-- the tables of the code objects that make generators -/
class Tb where
  ls : List Addr
instance (priority := low) tb0 : Tb := ⟨[]⟩
variable [Tb]
def Pd (d : PyData) : Prop := Pu d = true ∧ d.canLay0 = true
/-- what a slot holds: data; a list (own: no other slot has it and the body made it; new: the body made it); a dict; a set of texts; the tape; a value as it is -/
inductive DV where
  | d (x : PyData)
  | l (own new : Bool) (xs : List PyData)
  | k (own new : Bool) (kvs : List (Key × PyData))
  | s (own new : Bool) (ks : List Str)
  | pt (new : Bool) (xs : List PyData)
  | tp
  | v (x : V)
  /-- a dict that is not written any more: of plain data; of rows (None, or such a dict) -/
  | fk (kvs : List (Key × PyData))
  | fr (rs : List (Key × Option (List (Key × PyData))))
def DV.own : DV → Bool
  | .l o _ _ => o
  | .k o _ _ => o
  | .s o _ _ => o
  | _ => false
def DV.new : DV → Bool
  | .l _ n _ => n
  | .k _ n _ => n
  | .s _ n _ => n
  | .pt n _ => n
  | _ => false
def DV.obj : DV → Bool
  | .l _ _ _ => true
  | .k _ _ _ => true
  | .s _ _ _ => true
  | .pt _ _ => true
  | _ => false
def DV.cold : DV → Bool
  | .fk _ => true
  | .fr _ => true
  | _ => false
/-- as a callee sees it -/
def DV.sh : DV → DV
  | .l _ _ xs => .l false false xs
  | .k _ _ xs => .k false false xs
  | .s _ _ xs => .s false false xs
  | .pt _ xs => .pt false xs
  | x => x
/-- as one who may not write it sees it -/
def DV.fz : DV → DV
  | .l _ n xs => .l false n xs
  | .k _ n xs => .k false n xs
  | .s _ n xs => .s false n xs
  | x => x
abbrev Env := List (Option DV)
abbrev Tp := Option (Addr × Addr)
def Keep (T : Tp) (H H' : Hp) : Prop := ∀ b u, (∀ p ∈ T, b ≠ p.1) → H b = some u → H' b = some u
def TOk (T : Tp) (H : Hp) : Prop := (∀ p ∈ T, Tape H p.1 p.2) ∧ ∀ P ∈ Tb.ls, Gx.TabE H P
/-- the values of a dict -/
def KvAt (K : PySem.W.Frag) (H : Hp) : List (Key × V) → List (Key × PyData) → Prop := Paired fun p q => p.1 = q.1 ∧ Dp K H p.2 q.2 ∧ Pd q.2
/-- a dict that is known: read, never written -/
def FkAt (K : PySem.W.Frag) (H : Hp) (v : V) (kvs : List (Key × PyData)) : Prop := ∃ a o ws, v = .ref a ∧ H a = some (.frz o (.dK ws)) ∧ KvAt K H ws kvs
def RwAt (K : PySem.W.Frag) (H : Hp) (v : V) : Option (List (Key × PyData)) → Prop
  | none => v = .non
  | some kvs => FkAt K H v kvs
def RsAt (K : PySem.W.Frag) (H : Hp) : List (Key × V) → List (Key × Option (List (Key × PyData))) → Prop := Paired fun p q => p.1 = q.1 ∧ RwAt K H p.2 q.2
/-- what is known stands -/
def ZK (H H' : Hp) : Prop := ∀ b o u, H b = some (.frz o u) → H' b = some (.frz o u)
def RV (w : World) (K : PySem.W.Frag) (T : Tp) (H : Hp) (v : V) : DV → Prop
  | .d x => Dp K H v x ∧ Pd x
  | .l _ _ xs => ∃ a vs, v = .ref a ∧ H a = some (.lst vs) ∧ DpAll K H vs xs ∧ (∀ x ∈ xs, Pd x) ∧ ∀ p ∈ T, a ≠ p.1
  | .k _ _ kvs => ∃ a ws, v = .ref a ∧ H a = some (.dK ws) ∧ KvAt K H ws kvs
  | .s _ _ ks => ∃ a, v = .ref a ∧ H a = some (TSO w a ks) ∧ ∀ z ∈ ks, PyData.strOk z = true
  | .pt _ xs => ∃ a vs, v = .ref a ∧ H a = some (TPO a vs) ∧ DpAll K H vs xs ∧ ∀ x ∈ xs, Pd x
  | .tp => ∃ p ∈ T, v = .ref p.1
  | .v x => v = x
  | .fk kvs => FkAt K H v kvs
  | .fr rs => ∃ a o ws, v = .ref a ∧ H a = some (.frz o (.dK ws)) ∧ RsAt K H ws rs
/-- what stands around a body: the heap at its entry, the heap whose tuples stand, what may not be written -/
structure Fr where
  H0 : Hp
  Hb : Hp
  fz : List (Addr × HO)
structure Rel (w : World) (K : PySem.W.Frag) (T : Tp) (F : Fr) (σ : L2.St) (H : Hp) (ε : Env) : Prop where
  keep : Keep T F.H0 H
  t0 : TOk T F.H0
  t1 : TOk T H
  tk : TK F.Hb H
  fz : ∀ p ∈ F.fz, H p.1 = some p.2 ∧ ∀ q ∈ T, p.1 ≠ q.1
  val : ∀ (i : Nat) (dv : DV), ε[i]? = some (some dv) → ∃ v, σ[i]? = some (some v) ∧ RV w K T H v dv
  new : ∀ (i : Nat) (dv : DV) (a : Addr), ε[i]? = some (some dv) → dv.new = true → σ[i]? = some (some (.ref a)) → F.H0 a = none
  own : ∀ (i : Nat) (dv : DV) (a : Addr), ε[i]? = some (some dv) → dv.own = true → σ[i]? = some (some (.ref a)) → dv.new = true ∧ ∀ p ∈ F.fz, p.1 ≠ a
  one : ∀ (i j : Nat) (di dj : DV) (a : Addr), ε[i]? = some (some di) → di.own = true → ε[j]? = some (some dj) → dj.obj = true → σ[i]? = some (some (.ref a)) → σ[j]? = some (some (.ref a)) → i = j
  len : ε.length = σ.length
section
variable {w : World} {K : PySem.W.Frag} {T : Tp} {F : Fr} {σ : L2.St} {H H1 H' : Hp} {ε : Env} {v x : V} {kvs : List (Key × PyData)} {dv : DV} {a p : Addr} {o : HO}
theorem Keep.refl : Keep T H H := fun _ _ _ h => h
theorem Keep.trans (a : Keep T H H1) (b : Keep T H1 H') : Keep T H H' := fun c u n h => b c u n (a c u n h)
theorem Keep.of_same (s : Same H H') : Keep T H H' := fun b u _ h => s b u h
theorem Keep.new (n : H p = none) : Keep T H (L2.upd H p o) := Keep.of_same (new_same n)
theorem Keep.but (k : Keep T H H') : ∀ q ∈ T, But q.1 H H' := fun q hq b u n h => k b u (fun q' hq' => by cases T with | none => cases hq | some t => cases hq; cases hq'; exact n) h
theorem Keep.of_but {t a : Addr} (b : But t H H') : Keep (some (t, a)) H H' := fun c u n h => b c u (n _ rfl) h
theorem Keep.none_same (k : Keep none H H') : Same H H' := fun b u h => k b u (fun _ q => nomatch q) h
theorem TOk.same (t : TOk T H) (s : Same H H') : TOk T H' := ⟨fun p hp => (t.1 p hp).same s, fun P hP => s P _ (t.2 P hP)⟩
theorem TOk.new (t : TOk T H) (n : H p = none) : TOk T (L2.upd H p o) := t.same (new_same n)
theorem tape_lst {t a : Addr} (h : Tape H t a) : ∃ xs, H t = some (.lst xs) := by
  obtain ⟨ns, q, c, e, _, _, _, _, _, h⟩ := h
  exact ⟨_, h⟩
theorem tape_in {t a : Addr} (h : Tape H t a) : ∃ xs, H a = some (.lst xs) := by
  obtain ⟨ns, q, c, e, _, _, _, _, h, _⟩ := h
  exact ⟨_, h⟩
theorem Keep.tk (k : Keep T H H') (t : TOk T H) : TK H H' := by
  cases T with
  | none => exact TK.of_same k.none_same
  | some q =>
    obtain ⟨xs, h⟩ := tape_lst (t.1 q rfl)
    exact TK.of_but (k.but q rfl) h
theorem Keep.zk (k : Keep T H H') (t : TOk T H) : ZK H H' := fun b o u e => k b _ (fun p hp z => by
  obtain ⟨xs, h⟩ := tape_lst (t.1 p hp)
  rw [← z, e] at h; cases h) e
theorem Keep.free (k : Keep T H H') (t : TOk T H') (h : H' a = none) : H a = none := by
  cases e : H a with
  | none => rfl
  | some u =>
    by_cases c : ∀ p ∈ T, a ≠ p.1
    · rw [k a u c e] at h; cases h
    · cases T with
      | none => exact absurd (fun _ q => nomatch q) c
      | some q =>
        have : a = q.1 := Classical.byContradiction fun n => c fun p hp => by cases hp; exact n
        obtain ⟨xs, h2⟩ := tape_lst (t.1 q rfl)
        rw [this, h2] at h; cases h
theorem KvAt.keep (k : TK H H') : ∀ {ws : List (Key × V)} {kvs : List (Key × PyData)}, KvAt K H ws kvs → KvAt K H' ws kvs := by
  intro ws kvs h
  unfold KvAt at *
  induction h with
  | nil => exact .nil
  | cons a _ ih => exact .cons ⟨a.1, Dp.keep k _ _ a.2.2.1 a.2.1, a.2.2⟩ ih
/-- a thing that is new since H1 is written -/
theorem TOk.put {D : Addr} (t1 : TOk T H1) (hD : H1 D = none) (t : TOk T H) : TOk T (L2.upd H D o) := by
  refine ⟨fun p hp => ?_, fun P hP => (upd_ne (ne_of_none (t1.2 P hP) hD)).trans (t.2 P hP)⟩
  obtain ⟨ns, q1, c1, e1, n, p0, c0, d0, x1, x2⟩ := t.1 p hp
  obtain ⟨y1, z1⟩ := tape_lst (t1.1 p hp)
  obtain ⟨y2, z2⟩ := tape_in (t1.1 p hp)
  exact ⟨ns, q1, c1, e1, n, p0, c0, d0, by rw [upd_ne (ne_of_none z2 hD)]; exact x1, by rw [upd_ne (ne_of_none z1 hD)]; exact x2⟩
theorem FkAt.keep (h : FkAt K H v kvs) (k : TK H H') (z : ZK H H') : FkAt K H' v kvs := let ⟨a, o, ws, e, h1, h2⟩ := h; ⟨a, o, ws, e, z a o _ h1, h2.keep k⟩
theorem RwAt.keep {q : Option (List (Key × PyData))} (h : RwAt K H v q) (k : TK H H') (z : ZK H H') : RwAt K H' v q := by
  cases q with
  | none => exact h
  | some kvs => exact FkAt.keep h k z
theorem RsAt.keep (k : TK H H') (z : ZK H H') : ∀ {ws : List (Key × V)} {rs : List (Key × Option (List (Key × PyData)))}, RsAt K H ws rs → RsAt K H' ws rs := by
  intro ws rs h
  unfold RsAt at *
  induction h with
  | nil => exact .nil
  | cons a _ ih => exact .cons ⟨a.1, a.2.keep k z⟩ ih
theorem pu_all {xs : List PyData} (h : ∀ x ∈ xs, Pd x) : PuAll xs = true := puAll_iff.mpr fun d m => (h d m).1
/-- what holds of a value stands while tuples stand, and its own object -/
theorem RV.step (h : RV w K T H v dv) (k : TK H H') (ho : dv.obj = true → ∀ a u, v = .ref a → H a = some u → H' a = some u) (kz : dv.cold = true → ZK H H') : RV w K T H' v dv := by
  cases dv with
  | d x => exact ⟨Dp.keep k _ _ h.2.1 h.1, h.2⟩
  | l o n xs =>
    obtain ⟨a, vs, rfl, h1, h2, h3, h4⟩ := h
    exact ⟨a, vs, rfl, ho rfl a _ rfl h1, DpAll.keep k _ _ (pu_all h3) h2, h3, h4⟩
  | k o n kvs =>
    obtain ⟨a, ws, rfl, h1, h2⟩ := h
    exact ⟨a, ws, rfl, ho rfl a _ rfl h1, KvAt.keep k h2⟩
  | s o n ks =>
    obtain ⟨a, rfl, h1, h2⟩ := h
    exact ⟨a, rfl, ho rfl a _ rfl h1, h2⟩
  | pt n xs =>
    obtain ⟨a, vs, rfl, h1, h2, h3⟩ := h
    exact ⟨a, vs, rfl, ho rfl a _ rfl h1, DpAll.keep k _ _ (pu_all h3) h2, h3⟩
  | tp => exact h
  | v x => exact h
  | fk kvs => exact FkAt.keep h k (kz rfl)
  | fr rs =>
    obtain ⟨a, o, ws, rfl, h1, h2⟩ := h
    exact ⟨a, o, ws, rfl, kz rfl a o _ h1, h2.keep k (kz rfl)⟩
theorem lst_ne_tape (t : TOk T H) (h : H a = some (.dK [])) : True := trivial
/-- an object is not the tape -/
theorem RV.ne (h : RV w K T H v dv) (t : TOk T H) (ho : dv.obj = true) (e : v = .ref a) : ∀ p ∈ T, a ≠ p.1 := by
  intro p hp
  cases dv with
  | l o n xs =>
    obtain ⟨b, vs, rfl, h1, h2, h3, h4⟩ := h
    cases e; exact h4 p hp
  | k o n kvs =>
    obtain ⟨b, ws, rfl, h1, h2⟩ := h
    cases e
    obtain ⟨xs, h5⟩ := tape_lst (t.1 p hp)
    exact ne_of h1 h5 (by intro q; cases q)
  | s o n ks =>
    obtain ⟨b, rfl, h1, h2⟩ := h
    cases e
    obtain ⟨xs, h5⟩ := tape_lst (t.1 p hp)
    exact ne_of h1 h5 (by intro q; cases q)
  | pt n xs =>
    obtain ⟨b, vs, rfl, h1, h2⟩ := h
    cases e
    obtain ⟨ys, h5⟩ := tape_lst (t.1 p hp)
    exact ne_of h1 h5 (by intro q; cases q)
  | d x => cases ho
  | tp => cases ho
  | v x => cases ho
  | fk _ => cases ho
  | fr _ => cases ho
theorem RV.keep (h : RV w K T H v dv) (t : TOk T H) (k : Keep T H H') : RV w K T H' v dv :=
  h.step (k.tk t) (fun ho a u e q => k a u (h.ne t ho e) q) fun _ => k.zk t
theorem RV.shd (h : RV w K T H v dv) : RV w K T H v dv.sh := by cases dv <;> exact h
theorem RV.fzd (h : RV w K T H v dv) : RV w K T H v dv.fz := by cases dv <;> exact h
theorem RV.obj_at (h : RV w K T H v dv) (ho : dv.obj = true) : ∃ a u, v = .ref a ∧ H a = some u := by
  cases dv with
  | l o n xs => obtain ⟨b, vs, rfl, h1, _⟩ := h; exact ⟨_, _, rfl, h1⟩
  | k o n kvs => obtain ⟨b, vs, rfl, h1, _⟩ := h; exact ⟨_, _, rfl, h1⟩
  | s o n ks => obtain ⟨b, rfl, h1, _⟩ := h; exact ⟨_, _, rfl, h1⟩
  | pt n xs => obtain ⟨b, vs, rfl, h1, _⟩ := h; exact ⟨_, _, rfl, h1⟩
  | d x => cases ho
  | tp => cases ho
  | v x => cases ho
  | fk _ => cases ho
  | fr _ => cases ho
theorem own_obj : ∀ {dv : DV}, dv.own = true → dv.obj = true
  | .l _ _ _, _ => rfl
  | .k _ _ _, _ => rfl
  | .s _ _ _, _ => rfl
theorem new_obj : ∀ {dv : DV}, dv.new = true → dv.obj = true
  | .l _ _ _, _ => rfl
  | .k _ _ _, _ => rfl
  | .s _ _ _, _ => rfl
  | .pt _ _, _ => rfl
/-- the heap grows (and the tape turns) -/
theorem Rel.go (r : Rel w K T F σ H ε) (k : Keep T H H') (t : TOk T H') : Rel w K T F σ H' ε where
  keep := r.keep.trans k
  t0 := r.t0
  t1 := t
  tk := r.tk.trans (k.tk r.t1)
  fz p hp := ⟨k _ _ (r.fz p hp).2 (r.fz p hp).1, (r.fz p hp).2⟩
  val i dv e := let ⟨v, h1, h2⟩ := r.val i dv e; ⟨v, h1, h2.keep r.t1 k⟩
  new := r.new
  own := r.own
  one := r.one
  len := r.len
theorem get_set {α : Type} {l : List α} {i j : Nat} {x y : α} (h : (l.set i x)[j]? = some y) : (i = j ∧ y = x ∧ i < l.length) ∨ (i ≠ j ∧ l[j]? = some y) := by
  by_cases e : i = j
  · subst e
    by_cases l1 : i < l.length
    · rw [List.getElem?_set_self l1] at h
      exact .inl ⟨rfl, (Option.some.inj h).symm, l1⟩
    · rw [List.getElem?_eq_none (by rw [List.length_set]; omega)] at h; cases h
  · rw [List.getElem?_set_ne e] at h
    exact .inr ⟨e, h⟩
theorem set_get {α : Type} {l : List α} {i : Nat} {x : α} (h : i < l.length) : (l.set i x)[i]? = some x := List.getElem?_set_self h
/-- a slot gets a value: plain data, a new own object, or one that is not written any more -/
theorem Rel.set {i : Nat} (r : Rel w K T F σ H ε) (hv : RV w K T H v dv) (hn : dv.new = true → ∀ a, v = .ref a → F.H0 a = none)
    (ho : dv.own = true → dv.new = true ∧ ∀ a, v = .ref a → (∀ p ∈ F.fz, p.1 ≠ a) ∧ ∀ j dj, j ≠ i → ε[j]? = some (some dj) → dj.obj = true → σ[j]? ≠ some (some (.ref a)))
    (hs : dv.obj = true → ∀ a, v = .ref a → ∀ j dj, j ≠ i → ε[j]? = some (some dj) → dj.own = true → σ[j]? ≠ some (some (.ref a))) : Rel w K T F (σ.set i (some v)) H (ε.set i (some dv)) where
  keep := r.keep
  t0 := r.t0
  t1 := r.t1
  tk := r.tk
  fz := r.fz
  val j dw e := by
    rcases get_set e with ⟨rfl, e2, l⟩ | ⟨n, e2⟩
    · cases e2
      exact ⟨v, set_get (by rw [← r.len]; exact l), hv⟩
    · obtain ⟨u, h1, h2⟩ := r.val j dw e2
      exact ⟨u, by rw [List.getElem?_set_ne n]; exact h1, h2⟩
  new j dw a e en es := by
    rcases get_set e with ⟨rfl, e2, l⟩ | ⟨n, e2⟩
    · cases e2
      rw [set_get (by rw [← r.len]; exact l)] at es
      exact hn en a (Option.some.inj (Option.some.inj es))
    · rw [List.getElem?_set_ne n] at es
      exact r.new j dw a e2 en es
  own j dw a e eo es := by
    rcases get_set e with ⟨rfl, e2, l⟩ | ⟨n, e2⟩
    · cases e2
      rw [set_get (by rw [← r.len]; exact l)] at es
      exact ⟨(ho eo).1, ((ho eo).2 a (Option.some.inj (Option.some.inj es))).1⟩
    · rw [List.getElem?_set_ne n] at es
      exact r.own j dw a e2 eo es
  one j k dj dk a ej oj ek ok sj sk := by
    rcases get_set ej with ⟨rfl, e2, l⟩ | ⟨n, e2⟩
    · cases e2
      rw [set_get (by rw [← r.len]; exact l)] at sj
      rcases get_set ek with ⟨rfl, e3, l3⟩ | ⟨n3, e3⟩
      · rfl
      · rw [List.getElem?_set_ne n3] at sk
        exact absurd sk (((ho oj).2 a (Option.some.inj (Option.some.inj sj))).2 k dk (Ne.symm n3) e3 ok)
    · rw [List.getElem?_set_ne n] at sj
      rcases get_set ek with ⟨rfl, e3, l3⟩ | ⟨n3, e3⟩
      · cases e3
        rw [set_get (by rw [← r.len]; exact l3)] at sk
        exact absurd sj (hs ok a (Option.some.inj (Option.some.inj sk)) j dj (Ne.symm n) e2 oj)
      · rw [List.getElem?_set_ne n3] at sk
        exact r.one j k dj dk a e2 oj e3 ok sj sk
  len := by rw [List.length_set, List.length_set]; exact r.len
/-- plain data into a slot -/
theorem Rel.setD {i : Nat} {x : PyData} (r : Rel w K T F σ H ε) (hv : RV w K T H v (.d x)) : Rel w K T F (σ.set i (some v)) H (ε.set i (some (.d x))) :=
  r.set hv (fun q => nomatch q) (fun q => nomatch q) (fun q => nomatch q)
/-- a slot is given up -/
theorem Rel.drop (r : Rel w K T F σ H ε) (i : Nat) : Rel w K T F σ H (ε.set i none) where
  keep := r.keep
  t0 := r.t0
  t1 := r.t1
  tk := r.tk
  fz := r.fz
  val j dw e := by
    rcases get_set e with ⟨rfl, e2, l⟩ | ⟨n, e2⟩
    · cases e2
    · exact r.val j dw e2
  new j dw a e en es := by
    rcases get_set e with ⟨rfl, e2, l⟩ | ⟨n, e2⟩
    · cases e2
    · exact r.new j dw a e2 en es
  own j dw a e eo es := by
    rcases get_set e with ⟨rfl, e2, l⟩ | ⟨n, e2⟩
    · cases e2
    · exact r.own j dw a e2 eo es
  one j k dj dk a ej oj ek ok sj sk := by
    rcases get_set ej with ⟨rfl, e2, l⟩ | ⟨n, e2⟩
    · cases e2
    · rcases get_set ek with ⟨rfl, e3, l3⟩ | ⟨n3, e3⟩
      · cases e3
      · exact r.one j k dj dk a e2 oj e3 ok sj sk
  len := by rw [List.length_set]; exact r.len
/-- a slot is no longer written -/
theorem Rel.freeze (r : Rel w K T F σ H ε) {i : Nat} {dv : DV} (h : ε[i]? = some (some dv)) : Rel w K T F σ H (ε.set i (some dv.fz)) where
  keep := r.keep
  t0 := r.t0
  t1 := r.t1
  tk := r.tk
  fz := r.fz
  val j dw e := by
    rcases get_set e with ⟨rfl, e2, l⟩ | ⟨n, e2⟩
    · cases e2
      obtain ⟨v, h1, h2⟩ := r.val _ _ h
      exact ⟨v, h1, h2.fzd⟩
    · exact r.val j dw e2
  new j dw a e en es := by
    rcases get_set e with ⟨rfl, e2, l⟩ | ⟨n, e2⟩
    · cases e2
      exact r.new _ _ a h (by cases dv <;> exact en) es
    · exact r.new j dw a e2 en es
  own j dw a e eo es := by
    rcases get_set e with ⟨rfl, e2, l⟩ | ⟨n, e2⟩
    · cases e2; cases dv <;> cases eo
    · exact r.own j dw a e2 eo es
  one j k dj dk a ej oj ek ok sj sk := by
    rcases get_set ej with ⟨rfl, e2, l⟩ | ⟨n, e2⟩
    · cases e2; cases dv <;> cases oj
    · rcases get_set ek with ⟨rfl, e3, l3⟩ | ⟨n3, e3⟩
      · cases e3
        exact r.one j _ dj dv a e2 oj h (by cases dv <;> first | rfl | exact ok) sj sk
      · exact r.one j k dj dk a e2 oj e3 ok sj sk
  len := by rw [List.length_set]; exact r.len
/-- an own object is written -/
theorem Rel.write {i : Nat} {dv dw : DV} {o' : HO} (r : Rel w K T F σ H ε) (h : ε[i]? = some (some dv)) (ho : dv.own = true) (hs : σ[i]? = some (some (.ref a))) (hd : dw.own = true) (hw : dw.new = true)
    (hl : H a = some o) (no1 : ∀ xs, o ≠ .tup xs) (no2 : ∀ ob u, o ≠ .frz ob u) (hv : RV w K T (L2.upd H a o') (.ref a) dw) : Rel w K T F σ (L2.upd H a o') (ε.set i (some dw)) := by
  have ow := r.own i dv a h ho hs
  have h0 := r.new i dv a h ow.1 hs
  have ne0 : ∀ b u, F.H0 b = some u → b ≠ a := fun b u e q => by rw [q, h0] at e; cases e
  have hk : Keep T F.H0 (L2.upd H a o') := fun b u n e => by rw [upd_ne (ne0 b u e)]; exact r.keep b u n e
  have tk1 : TK H (L2.upd H a o') := fun b xs rd => by
    have nb : b ≠ a := by
      rintro rfl
      rcases rd with rd | ⟨u, rd⟩
      · rw [hl] at rd; exact no1 xs (Option.some.inj rd)
      · rw [hl] at rd; exact no2 u _ (Option.some.inj rd)
    rcases rd with rd | ⟨u, rd⟩
    · exact .inl (by rw [upd_ne nb]; exact rd)
    · exact .inr ⟨u, by rw [upd_ne nb]; exact rd⟩
  have zk1 : ZK H (L2.upd H a o') := fun b ob u e => (upd_ne (fun z => by rw [z, hl] at e; exact no2 ob u (Option.some.inj e))).trans e
  have other : ∀ j dj, ε[j]? = some (some dj) → j ≠ i → ∀ v, σ[j]? = some (some v) → RV w K T H v dj → RV w K T (L2.upd H a o') v dj := fun j dj e nj v sv rv => rv.step tk1 (fun oj b u eb hb => by
    rw [upd_ne]; exact hb
    rintro rfl
    subst eb
    exact nj (r.one i j dv dj b h ho e oj hs sv).symm) fun _ => zk1
  exact {
    keep := hk
    t0 := r.t0
    t1 := ⟨fun p hp => by
      obtain ⟨ns, q, c, e, n, p0, c0, d0, h1, h2⟩ := r.t1.1 p hp
      have t0 := r.t0.1 p hp
      obtain ⟨x1, y1⟩ := tape_lst t0
      obtain ⟨x2, y2⟩ := tape_in t0
      exact ⟨ns, q, c, e, n, p0, c0, d0, by rw [upd_ne (ne0 _ _ y2)]; exact h1, by rw [upd_ne (ne0 _ _ y1)]; exact h2⟩, fun P hP => (upd_ne (ne0 _ _ (r.t0.2 P hP))).trans (r.t1.2 P hP)⟩
    tk := r.tk.trans tk1
    fz := fun p hp => ⟨by rw [upd_ne (ow.2 p hp)]; exact (r.fz p hp).1, (r.fz p hp).2⟩
    val := fun j dj e => by
      rcases get_set e with ⟨rfl, e2, l⟩ | ⟨n, e2⟩
      · cases e2; exact ⟨_, hs, hv⟩
      · obtain ⟨v, h1, h2⟩ := r.val j dj e2
        exact ⟨v, h1, other j dj e2 (Ne.symm n) v h1 h2⟩
    new := fun j dj b e en es => by
      rcases get_set e with ⟨rfl, e2, l⟩ | ⟨n, e2⟩
      · rw [hs] at es; cases es; exact h0
      · exact r.new j dj b e2 en es
    own := fun j dj b e eo es => by
      rcases get_set e with ⟨rfl, e2, l⟩ | ⟨n, e2⟩
      · cases e2
        rw [hs] at es; cases es; exact ⟨hw, ow.2⟩
      · exact r.own j dj b e2 eo es
    one := fun j k dj dk b ej oj ek ok sj sk => by
      rcases get_set ej with ⟨rfl, e2, l⟩ | ⟨n, e2⟩
      · rcases get_set ek with ⟨rfl, e3, l3⟩ | ⟨n3, e3⟩
        · rfl
        · exact r.one _ k dv dk b h ho e3 ok sj sk
      · rcases get_set ek with ⟨rfl, e3, l3⟩ | ⟨n3, e3⟩
        · exact r.one j _ dj dv b e2 oj h (own_obj ho) sj sk
        · exact r.one j k dj dk b e2 oj e3 ok sj sk
    len := by rw [List.length_set]; exact r.len }
end
/-! ### what pieces of a body mean -/
structure Cnd (b : Bool) (A B : Prop) : Prop where
  h : if b = true then A else B
abbrev MQ := DV → Prop
abbrev ME := Env → MQ → Prop
abbrev MT := Env → (Bool → Prop) → Prop
abbrev MA := Env → (List DV → Prop) → Prop
structure MEnds where
  nx : Env → Prop
  rt : MQ
  bk : Env → Prop := fun _ => False
  ct : Env → Prop := fun _ => False
abbrev MS := MEnds → Env → Prop
section
variable (w : World) (K : PySem.W.Frag)
/-- a value that has come, H the heap ahead of it -/
structure Came (T : Tp) (H H' : Hp) (v : V) (dv : DV) : Prop where
  k : Keep T H H'
  t : TOk T H'
  rv : RV w K T H' v dv
  n : dv.new = true → ∀ a, v = .ref a → H a = none
  o : dv.own = true → dv.new = true
def DE (te : TE) (me : ME) : Prop := ∀ T F σ H ε (Q : VK) (Qm : MQ), Rel w K T F σ H ε → me ε Qm → (∀ dv v H', Came w K T H H' v dv → Qm dv → Q v H') → te σ H Q
def DT (tt : TT) (mt : MT) : Prop := ∀ T F σ H ε (Q : Bool → Hp → Prop) (Qm : Bool → Prop), Rel w K T F σ H ε → mt ε Qm → (∀ b H', Keep T H H' → TOk T H' → Qm b → Q b H') → tt σ H Q
def DA (ta : TA) (ma : MA) : Prop := ∀ T F σ H ε (Q : List V → Hp → Prop) (Qm : List DV → Prop), Rel w K T F σ H ε → ma ε Qm → (∀ dvs vs H', Keep T H H' → TOk T H' → Paired (fun v dv => RV w K T H' v dv ∧ (dv.new = true → ∀ a, v = .ref a → H a = none)) vs dvs → Qm dvs → Q vs H') → ta σ H Q
/-- an operator by values -/
def DR (r : R2) (mr : DV → DV → MQ → Prop) : Prop := ∀ T H x y dx dy (Q : VK) (Qm : MQ), TOk T H → RV w K T H x dx → RV w K T H y dy → mr dx dy Qm → (∀ dv v H', Came w K T H H' v dv → Qm dv → Q v H') → r x y H Q
/-- a built-in by values -/
def DC (r : List V → Hp → VK → Prop) (mr : List DV → MQ → Prop) : Prop := ∀ T H vs dvs (Q : VK) (Qm : MQ), TOk T H → Paired (RV w K T H) vs dvs → mr dvs Qm → (∀ dv v H', Came w K T H H' v dv → Qm dv → Q v H') → r vs H Q
/-- the ends of a body -/
def LE (T : Tp) (F : Fr) (D : MEnds) : Ends where
  nx σ H := ∃ ε, Rel w K T F σ H ε ∧ D.nx ε
  rt v H := ∃ dv, Came w K T F.H0 H v dv ∧ TK F.Hb H ∧ (∀ p ∈ F.fz, H p.1 = some p.2) ∧ D.rt dv
  bk σ H := ∃ ε, Rel w K T F σ H ε ∧ D.bk ε
  ct σ H := ∃ ε, Rel w K T F σ H ε ∧ D.ct ε
structure Sub (D E : Ends) : Prop where
  nx : ∀ σ H, D.nx σ H → E.nx σ H
  rt : ∀ v H, D.rt v H → E.rt v H
  bk : ∀ σ H, D.bk σ H → E.bk σ H
  ct : ∀ σ H, D.ct σ H → E.ct σ H
def DS (ts : TS) (ms : MS) : Prop := ∀ T F σ H ε (D : MEnds) (E : Ends), Rel w K T F σ H ε → ms D ε → Sub (LE w K T F D) E → ts E σ H
/-- a target of plain data; ss: the slots that it stores to -/
def DG (g : TG) (mg : DV → Env → (Env → Prop) → Prop) (ss : List Nat) : Prop := ∀ T F σ H ε v x (Q : L2.St → Hp → Prop) (Qm : Env → Prop), Rel w K T F σ H ε → RV w K T H v (.d x) → mg (.d x) ε Qm → (∀ σ' ε', Rel w K T F σ' H ε' → (∀ vs, (∀ i ∈ ss, i ∈ vs) → wipe σ' vs = wipe σ vs) → Qm ε' → Q σ' H) → g v σ H Q
/-- what a call is worth: of n arguments, mF says what comes of them -/
def spM (n : Nat) (mF : List DV → MQ → Prop) : Sp := fun vs H Q _ => vs.length = n ∧ ∃ T dvs Qm, TOk T H ∧ Paired (RV w K T H) vs dvs ∧ (∀ d ∈ dvs, d.sh = d) ∧ mF dvs Qm ∧ ∀ dv v H', Came w K T H H' v dv → Qm dv → Q v H'
end
section
variable {w : World} {K : PySem.W.Frag} {T : Tp} {F : Fr} {σ : L2.St} {H H1 H' : Hp} {ε : Env} {v x : V} {dv : DV} {a p : Addr} {o : HO}
theorem Came.after (k : Keep T H H1) (t : TOk T H1) (c : Came w K T H1 H' v dv) : Came w K T H H' v dv := ⟨k.trans c.k, c.t, c.rv, fun n a e => k.free t (c.n n a e), c.o⟩
theorem Came.rel (r : Rel w K T F σ H ε) (c : Came w K T H H' v dv) : Rel w K T F σ H' ε := r.go c.k c.t
theorem Came.plain {x : PyData} (k : Keep T H H') (t : TOk T H') (v0 : RV w K T H' v (.d x)) : Came w K T H H' v (.d x) := ⟨k, t, v0, (fun q => nomatch q), (fun q => nomatch q)⟩
theorem Came.here {x : PyData} (t : TOk T H) (v0 : RV w K T H v (.d x)) : Came w K T H H v (.d x) := .plain Keep.refl t v0
end
end Mx
namespace Mx
open PySem PySem.Spec PyProof.Rows L2 Tq
variable [Tb]
/-! ### expressions -/
def mVar (i : Nat) (ε : Env) (Q : MQ) : Prop := match ε[i]? with
  | some (some dv) => Q dv.sh
  | _ => False
def mC (x : DV) (_ : Env) (Q : MQ) : Prop := Q x
def mNil (_ : Env) (Q : List DV → Prop) : Prop := Q []
def mCons (ma : ME) (mr : MA) (ε : Env) (Q : List DV → Prop) : Prop := ma ε fun x => mr ε fun xs => Q (x :: xs)
def dsOf : List DV → Option (List PyData)
  | [] => some []
  | .d x :: r => match dsOf r with
    | some xs => some (x :: xs)
    | none => none
  | _ :: _ => none
def mTup (ma : MA) (ε : Env) (Q : MQ) : Prop := ma ε fun dvs => match dsOf dvs with
  | some xs => xs.length ≤ sizeLine ∧ Q (.d (.tuple xs))
  | none => False
def mLst (ma : MA) (ε : Env) (Q : MQ) : Prop := ma ε fun dvs => match dsOf dvs with
  | some xs => xs.length ≤ sizeLine ∧ Q (.l true true xs)
  | none => False
def mOp (mr : DV → DV → MQ → Prop) (ma mb : ME) (ε : Env) (Q : MQ) : Prop := ma ε fun x => mb ε fun y => mr x y Q
def mUn (mr : DV → MQ → Prop) (ma : ME) (ε : Env) (Q : MQ) : Prop := ma ε fun x => mr x Q
def mCB (mr : List DV → MQ → Prop) (ma : MA) (ε : Env) (Q : MQ) : Prop := ma ε fun xs => mr xs Q
def mCall (n : Nat) (mF : List DV → MQ → Prop) (ma : MA) (ε : Env) (Q : MQ) : Prop := ma ε fun dvs => dvs.length = n ∧ mF (dvs.map DV.sh) Q
/-- a call of a def with one more parameter that is () -/
def mCallD (n : Nat) (mF : List DV → MQ → Prop) (ma : MA) (ε : Env) (Q : MQ) : Prop := ma ε fun dvs => dvs.length + 1 = n ∧ mF (dvs.map DV.sh ++ [.d (.tuple [])]) Q
def mCallN (n m k : Nat) (mF : List DV → MQ → Prop) (ma mk : MA) (ε : Env) (Q : MQ) : Prop := ma ε fun dvs => mk ε fun dws => dvs.length = n ∧ dws.length = m ∧ n + m = k ∧ mF ((dvs ++ dws).map DV.sh) Q
def mIf (c : MT) (ma mb : ME) (ε : Env) (Q : MQ) : Prop := c ε fun b => Cnd b (ma ε Q) (mb ε Q)
def mAndV (ma mb : ME) (ε : Env) (Q : MQ) : Prop := ma ε fun x => match x with
  | .d (.bool c) => Cnd c (mb ε Q) (Q (.d (.bool false)))
  | _ => False
def mOrV (ma mb : ME) (ε : Env) (Q : MQ) : Prop := ma ε fun x => match x with
  | .d (.bool c) => Cnd c (Q (.d (.bool true))) (mb ε Q)
  | _ => False
def mNotV (ma : ME) (ε : Env) (Q : MQ) : Prop := ma ε fun x => match x with
  | .d (.bool c) => Q (.d (.bool (!c)))
  | _ => False
/-! ### tests -/
def mB (me : ME) (ε : Env) (Q : Bool → Prop) : Prop := me ε fun x => match x with
  | .d (.bool k) => Q k
  | _ => False
/-- truth of a value -/
def mTruD (x : DV) (Q : Bool → Prop) : Prop := match x with
  | .d .none => Q false
  | .d (.bool b) => Q b
  | .d (.int i) => Q (i != 0)
  | .d (.str y) => y.length ≤ sizeLine ∧ Q ((y.length : Int) != 0)
  | .d (.tuple xs) => Q (!xs.isEmpty)
  | .l _ _ xs => Q (!xs.isEmpty)
  | .k _ _ kvs => Q (!kvs.isEmpty)
  | _ => False
def mTru (me : ME) (ε : Env) (Q : Bool → Prop) : Prop := me ε fun x => mTruD x Q
def mAnd (t u : MT) (ε : Env) (Q : Bool → Prop) : Prop := t ε fun c => Cnd c (u ε Q) (Q false)
def mOr (t u : MT) (ε : Env) (Q : Bool → Prop) : Prop := t ε fun c => Cnd c (Q true) (u ε Q)
def mNot (t : MT) (ε : Env) (Q : Bool → Prop) : Prop := t ε fun c => Q (!c)
def mOrT (ma mb : ME) (ε : Env) (Q : MQ) : Prop := ma ε fun x => mTruD x fun k => Cnd k (Q x) (mb ε Q)
/-! ### operators -/
def mI (f : Int → Int → PyData) (x y : DV) (Q : MQ) : Prop := match x, y with
  | .d (.int i), .d (.int j) => Q (.d (f i j))
  | _, _ => False
def mIC (C : Int → Int → Prop) (f : Int → Int → PyData) (x y : DV) (Q : MQ) : Prop := match x, y with
  | .d (.int i), .d (.int j) => C i j ∧ Q (.d (f i j))
  | _, _ => False
def mSS (C : Str → Str → Prop) (f : Str → Str → PyData) (x y : DV) (Q : MQ) : Prop := match x, y with
  | .d (.str i), .d (.str j) => C i j ∧ Q (.d (f i j))
  | _, _ => False
def eqS : PyData → PyData → Option Bool
  | .int i, .int j => some (decide (i = j))
  | .str i, .str j => some (decide (i = j))
  | .bool i, .bool j => some (decide (i = j))
  | .none, .none => some true
  | .none, .int _ => some false
  | .none, .str _ => some false
  | .none, .bool _ => some false
  | .int _, .none => some false
  | .str _, .none => some false
  | .bool _, .none => some false
  | .int _, .str _ => some false
  | .str _, .int _ => some false
  | _, _ => none
def sgn (neg : Bool) (Q : MQ) (R : (Bool → Prop) → Prop) : Prop := match neg with
  | true => R fun k => Q (.d (.bool (!k)))
  | false => R fun k => Q (.d (.bool k))
def mEqS0 (x y : DV) (R : Bool → Prop) : Prop := match x, y with
  | .d a, .d b => match eqS a b with
    | some k => R k
    | none => False
  | _, _ => False
def mEqS (neg : Bool) (x y : DV) (Q : MQ) : Prop := sgn neg Q (mEqS0 x y)
def DV.dat : DV → Option PyData
  | .d x => some x
  | .l _ _ xs => some (.list xs)
  | _ => none
def mEqD0 (x y : DV) (R : Bool → Prop) : Prop := match x.dat, y.dat with
  | some a, some b => a.depth ≤ 64 ∧ b.depth ≤ 64 ∧ R (PyData.eqv a b)
  | _, _ => False
def mEqD (neg : Bool) (x y : DV) (Q : MQ) : Prop := sgn neg Q (mEqD0 x y)
def isNoneD : PyData → Bool
  | .none => true
  | _ => false
def mIsN0 (x y : DV) (R : Bool → Prop) : Prop := match x, y with
  | .d a, .d .none => R (isNoneD a)
  | .fk _, .d .none => R false
  | _, _ => False
def mIsN (neg : Bool) (x y : DV) (Q : MQ) : Prop := sgn neg Q (mIsN0 x y)
def flatD : PyData → Bool
  | .none => true
  | .bool _ => true
  | .int _ => true
  | .str _ => true
  | _ => false
def DV.items : DV → Option (List PyData)
  | .d (.tuple xs) => some xs
  | .l _ _ xs => some xs
  | _ => none
def inD (x : PyData) (xs : List PyData) : Bool := xs.any fun y => PyData.eqv y x
def mIn0 (x y : DV) (R : Bool → Prop) : Prop := match x, y.items with
  | .d a, some xs => flatD a = true ∧ xs.all flatD = true ∧ R (inD a xs)
  | _, _ => False
def mIn (neg : Bool) (x y : DV) (Q : MQ) : Prop := sgn neg Q (mIn0 x y)
def mInT0 (x y : DV) (R : Bool → Prop) : Prop := match x, y with
  | .d (.str z), .s _ _ ks => R (decide (z ∈ ks))
  | _, _ => False
def mInT (neg : Bool) (x y : DV) (Q : MQ) : Prop := sgn neg Q (mInT0 x y)
def mIxT (x y : DV) (Q : MQ) : Prop := match x, y with
  | .d (.tuple xs), .d (.int i) => match atI xs i with
    | some v => Q (.d v)
    | none => False
  | _, _ => False
def mIxL (x y : DV) (Q : MQ) : Prop := match x, y with
  | .l _ _ xs, .d (.int i) => match atI xs i with
    | some v => Q (.d v)
    | none => False
  | _, _ => False
def mIxS (x y : DV) (Q : MQ) : Prop := match x, y with
  | .d (.str z), .d (.int i) => z.length ≤ sizeLine ∧ match atI z.cps.toList i with
    | some c => Q (.d (.str ⟨#[c]⟩))
    | none => False
  | _, _ => False
def mCatT (x y : DV) (Q : MQ) : Prop := match x, y with
  | .d (.tuple xs), .d (.tuple ys) => xs.length + ys.length ≤ sizeLine ∧ Q (.d (.tuple (xs ++ ys)))
  | _, _ => False
def mCatL (x y : DV) (Q : MQ) : Prop := match x, y with
  | .l _ _ xs, .l _ _ ys => xs.length + ys.length ≤ sizeLine ∧ Q (.l true true (xs ++ ys))
  | _, _ => False
def mMulS (x y : DV) (Q : MQ) : Prop := match x, y with
  | .d (.str z), .d (.int n) => (z.length ≤ 1000 ∧ -1000 ≤ n ∧ n ≤ 1000) ∧ Q (.d (.str (Txt.mul z n)))
  | _, _ => False
/-! ### soundness -/
section
variable {w : World} {K : PySem.W.Frag} {te ta tb : TE} {me ma mb : ME} {tt tu : TT} {mt mu : MT} {tr tk : TA} {mr mk : MA} {sp : Sp} {E : XK}
theorem de_var (i : Nat) : DE w K (tVar i) (mVar i) := by
  intro T F σ H ε Q Qm r h q
  unfold mVar at h
  split at h
  · rename_i dv e
    obtain ⟨v, h1, h2⟩ := r.val _ _ e
    exact ⟨v, h1, q _ v H ⟨Keep.refl, r.t1, h2.shd, (fun n => by cases dv <;> cases n), (fun n => by cases dv <;> cases n)⟩ h⟩
  · exact h.elim
theorem pd_none : Pd .none := ⟨rfl, rfl⟩
theorem pd_bool (b : Bool) : Pd (.bool b) := ⟨rfl, rfl⟩
theorem pd_int (i : Int) : Pd (.int i) := ⟨rfl, rfl⟩
theorem pd_str {z : Str} (h : PyData.strOk z = true) : Pd (.str z) := ⟨rfl, h⟩
theorem pd_tup {xs : List PyData} (h : ∀ x ∈ xs, Pd x) : Pd (.tuple xs) := ⟨pu_all h, canAll fun d m => (h d m).2⟩
theorem can_in : ∀ {xs : List PyData}, PyData.canLayAll0 xs = true → ∀ x ∈ xs, x.canLay0 = true
  | [], _, _, m => nomatch m
  | y :: r, b, x, m => by
    have b2 : (y.canLay0 && PyData.canLayAll0 r) = true := b
    rw [Bool.and_eq_true] at b2
    rcases List.mem_cons.mp m with rfl | m
    · exact b2.1
    · exact can_in b2.2 x m
theorem pd_in {xs : List PyData} (h : Pd (.tuple xs)) : ∀ x ∈ xs, Pd x := fun x m => ⟨puAll_iff.mp h.1 x m, can_in h.2 x m⟩
theorem de_int {i : Int} : DE w K (tC (.int i)) (mC (.d (.int i))) := fun T F σ H ε Q Qm r h q => q _ _ H (.here r.t1 ⟨.int i, pd_int i⟩) h
theorem de_bl {i : Bool} : DE w K (tC (.bl i)) (mC (.d (.bool i))) := fun T F σ H ε Q Qm r h q => q _ _ H (.here r.t1 ⟨.bl i, pd_bool i⟩) h
theorem de_non : DE w K (tC .non) (mC (.d .none)) := fun T F σ H ε Q Qm r h q => q _ _ H (.here r.t1 ⟨.non, pd_none⟩) h
theorem de_str {z : Str} (o : PyData.strOk z = true) : DE w K (tC (.str z)) (mC (.d (.str z))) := fun T F σ H ε Q Qm r h q => q _ _ H (.here r.t1 ⟨.str z, pd_str o⟩) h
theorem de_ty {n : String} : DE w K (tC (.ty n)) (mC (.v (.ty n))) := fun T F σ H ε Q Qm r h q => q (.v (.ty n)) _ H ⟨Keep.refl, r.t1, rfl, (fun q => nomatch q), (fun q => nomatch q)⟩ h
theorem da_nil : DA w K tNil mNil := fun T F σ H ε Q Qm r h q => q [] [] H Keep.refl r.t1 .nil h
theorem da_cons (h1 : DE w K ta ma) (h2 : DA w K tr mr) : DA w K (tCons ta tr) (mCons ma mr) := fun T F σ H ε Q Qm r h q =>
  h1 T F σ H ε _ _ r h fun dv v H1 c h3 => h2 T F σ H1 ε _ _ (c.rel r) h3 fun dvs vs H2 k t p h4 =>
    q _ _ H2 (c.k.trans k) t (.cons ⟨c.rv.keep c.t k, c.n⟩ (L2.Paired.mapP p fun v dv x => ⟨x.1, fun n a e => c.k.free c.t (x.2 n a e)⟩)) h4
theorem ds_of : ∀ {dvs : List DV} {xs : List PyData} {vs : List V} {T : Tp} {H : Hp}, dsOf dvs = some xs → Paired (RV w K T H) vs dvs → DpAll K H vs xs ∧ ∀ x ∈ xs, Pd x
  | [], _, _, _, _, e, p => by
    cases e; cases p
    exact ⟨.nil, fun _ m => nomatch m⟩
  | .d x :: r, _, _, _, _, e, p => by
    unfold dsOf at e
    split at e
    · rename_i xs e2
      cases e
      cases p with
      | cons a p =>
        obtain ⟨h1, h2⟩ := ds_of e2 p
        refine ⟨.cons a.1 h1, fun y m => ?_⟩
        rcases List.mem_cons.mp m with rfl | m
        · exact a.2
        · exact h2 y m
    · cases e
theorem de_tup (h : DA w K tr mr) : DE w K (tTup tr) (mTup mr) := by
  intro T F σ H ε Q Qm r hm q
  refine h T F σ H ε _ _ r hm fun dvs vs H1 k t p h1 => ?_
  split at h1
  · rename_i xs e
    obtain ⟨a, b⟩ := ds_of e (L2.Paired.mapP p fun _ _ x => x.1)
    refine ⟨by rw [a.len]; exact h1.1, fun p hp => ?_⟩
    exact q _ _ _ (.after k t (.plain (Keep.new hp) (t.new hp) ⟨.tup (sqT upd_same) (DpAll.keep (TK.of_same (new_same hp)) _ _ (pu_all b) a), pd_tup b⟩)) h1.2
  · exact h1.elim
theorem ne_tape {T : Tp} {H : Hp} {p : Addr} (t : TOk T H) (hp : H p = none) : ∀ q ∈ T, p ≠ q.1 := fun q hq e => by
  obtain ⟨xs, h⟩ := tape_lst (t.1 q hq)
  rw [e, h] at hp; cases hp
/-- a new list -/
theorem came_lst {T : Tp} {H : Hp} {p : Addr} {vs : List V} {xs : List PyData} (t : TOk T H) (hp : H p = none) (a : DpAll K H vs xs) (b : ∀ x ∈ xs, Pd x) : Came w K T H (upd H p (.lst vs)) (.ref p) (.l true true xs) :=
  ⟨Keep.new hp, t.new hp, ⟨p, vs, rfl, upd_same, DpAll.keep (TK.of_same (new_same hp)) _ _ (pu_all b) a, b, ne_tape t hp⟩, (fun _ a e => by cases e; exact hp), fun _ => rfl⟩
theorem came_tup {T : Tp} {H : Hp} {p : Addr} {vs : List V} {xs : List PyData} (t : TOk T H) (hp : H p = none) (a : DpAll K H vs xs) (b : ∀ x ∈ xs, Pd x) : Came w K T H (upd H p (.tup vs)) (.ref p) (.d (.tuple xs)) :=
  .plain (Keep.new hp) (t.new hp) ⟨.tup (sqT upd_same) (DpAll.keep (TK.of_same (new_same hp)) _ _ (pu_all b) a), pd_tup b⟩
theorem de_lst (h : DA w K tr mr) : DE w K (tLst tr) (mLst mr) := by
  intro T F σ H ε Q Qm r hm q
  refine h T F σ H ε _ _ r hm fun dvs vs H1 k t p h1 => ?_
  split at h1
  · rename_i xs e
    obtain ⟨a, b⟩ := ds_of e (L2.Paired.mapP p fun _ _ x => x.1)
    exact ⟨by rw [a.len]; exact h1.1, fun p hp => q _ _ _ (.after k t (came_lst t hp a b)) h1.2⟩
  · exact h1.elim
theorem de_op {rr : R2} {mrr : DV → DV → MQ → Prop} (hr : DR w K rr mrr) (ha : DE w K ta ma) (hb : DE w K tb mb) : DE w K (tOp rr ta tb) (mOp mrr ma mb) := fun T F σ H ε Q Qm r h q =>
  ha T F σ H ε _ _ r h fun dv v H1 c h1 => hb T F σ H1 ε _ _ (c.rel r) h1 fun dw u H2 c2 h2 => hr T H2 v u dv dw _ _ c2.t (c.rv.keep c.t c2.k) c2.rv h2 fun dx x H3 c3 h3 => q _ _ _ (.after (c.k.trans c2.k) c2.t c3) h3
theorem de_cb {rr : List V → Hp → VK → Prop} {mrr : List DV → MQ → Prop} (hr : DC w K rr mrr) (ha : DA w K tr mr) : DE w K (tCB rr tr) (mCB mrr mr) := fun T F σ H ε Q Qm r h q =>
  ha T F σ H ε _ _ r h fun dvs vs H1 k t p h1 => hr T H1 vs dvs _ _ t (L2.Paired.mapP p fun _ _ x => x.1) h1 fun dx x H3 c3 h3 => q _ _ _ (.after k t c3) h3
theorem paired_sh {T : Tp} {H : Hp} : ∀ {vs : List V} {dvs : List DV}, Paired (RV w K T H) vs dvs → Paired (RV w K T H) vs (dvs.map DV.sh)
  | _, _, .nil => .nil
  | _, _, .cons a r => .cons a.shd (paired_sh r)
theorem sh_sh : ∀ dv : DV, dv.sh.sh = dv.sh
  | .d _ => rfl
  | .l _ _ _ => rfl
  | .k _ _ _ => rfl
  | .s _ _ _ => rfl
  | .pt _ _ => rfl
  | .tp => rfl
  | .v _ => rfl
  | .fk _ => rfl
  | .fr _ => rfl
theorem shs (dvs : List DV) : ∀ d ∈ dvs.map DV.sh, d.sh = d := fun d m => by obtain ⟨e, _, rfl⟩ := List.mem_map.mp m; exact sh_sh e
theorem paired_app {α β : Type} {R : α → β → Prop} : ∀ {as cs : List α} {bs ds : List β}, Paired R as bs → Paired R cs ds → Paired R (as ++ cs) (bs ++ ds)
  | _, _, _, _, .nil, h => h
  | _, _, _, _, .cons a r, h => .cons a (paired_app r h)
theorem de_call {n : Nat} {mF : List DV → MQ → Prop} (ha : DA w K tr mr) : DE w K (tCall (spM w K n mF) [] E tr) (mCall n mF mr) := fun T F σ H ε Q Qm r h q =>
  l_call (ha T F σ H ε _ _ r h fun dvs vs H1 k t p h1 => by
    have p' := L2.Paired.mapP p fun _ _ x => x.1
    exact ⟨p'.length.trans h1.1, T, dvs.map DV.sh, Qm, t, paired_sh p', shs _, h1.2, fun dv v H' c h => q dv v H' (.after k t c) h⟩)
theorem de_callD {n : Nat} {mF : List DV → MQ → Prop} {e0 : Addr} (he : ∀ H : Hp, SqT K H e0 []) (ha : DA w K tr mr) : DE w K (tCall (spM w K n mF) [.ref e0] E tr) (mCallD n mF mr) := fun T F σ H ε Q Qm r h q =>
  l_callD (ha T F σ H ε _ _ r h fun dvs vs H1 k t p h1 => by
    have p' := L2.Paired.mapP p fun _ _ x => x.1
    refine ⟨by rw [List.length_append, p'.length]; exact h1.1, T, dvs.map DV.sh ++ [.d (.tuple [])], Qm, t, paired_app (paired_sh p') (.cons (show RV w K T H1 (.ref e0) (.d (.tuple [])) from ⟨.tup (he H1) .nil, pd_tup fun _ m => nomatch m⟩) .nil), (fun d m => by
      rcases List.mem_append.mp m with m | m
      · exact shs _ d m
      · rw [List.mem_singleton.mp m]; rfl), h1.2, fun dv v H' c h => q dv v H' (.after k t c) h⟩)
theorem de_callN {n m k : Nat} {mF : List DV → MQ → Prop} (ha : DA w K tr mr) (hk : DA w K tk mk) : DE w K (tCallN n m (spM w K k mF) (fun us ws => us ++ ws) E tr tk) (mCallN n m k mF mr mk) := fun T F σ H ε Q Qm r h q =>
  l_callN (ha T F σ H ε _ _ r h fun dvs vs H1 k t p h1 => hk T F σ H1 ε _ _ (r.go k t) h1 fun dws us H2 k2 t2 p2 h2 => by
    have a := L2.Paired.mapP p fun _ _ x => x.1.keep t k2
    have b := L2.Paired.mapP p2 fun _ _ x => x.1
    exact ⟨a.length.trans h2.1, b.length.trans h2.2.1, by rw [List.length_append, a.length, b.length, h2.1, h2.2.1]; exact h2.2.2.1, T, (dvs ++ dws).map DV.sh, Qm, t2, paired_sh (paired_app a b), shs _, h2.2.2.2, fun dv v H' c h => q dv v H' (.after (k.trans k2) t2 c) h⟩)
theorem de_if (hc : DT w K tt mt) (ha : DE w K ta ma) (hb : DE w K tb mb) : DE w K (tIf tt ta tb) (mIf mt ma mb) := fun T F σ H ε Q Qm r h q =>
  hc T F σ H ε _ _ r h fun b H1 k t h1 => by
    cases b with
    | true => exact ha T F σ H1 ε _ _ (r.go k t) h1.h fun dv v H2 c h2 => q dv v H2 (.after k t c) h2
    | false => exact hb T F σ H1 ε _ _ (r.go k t) h1.h fun dv v H2 c h2 => q dv v H2 (.after k t c) h2
theorem rv_bool {T : Tp} {H : Hp} {v : V} {b : Bool} (h : RV w K T H v (.d (.bool b))) : v = .bl b := dp_bool h.1
theorem de_andV (ha : DE w K ta ma) (hb : DE w K tb mb) : DE w K (tAndV ta tb) (mAndV ma mb) := fun T F σ H ε Q Qm r h q =>
  ha T F σ H ε _ _ r h fun dv v H1 c h1 => by
    split at h1
    · rename_i b
      refine ⟨b, rv_bool c.rv, ?_⟩
      cases b with
      | true => exact hb T F σ H1 ε _ _ (c.rel r) h1.h fun dv v H2 c2 h2 => q dv v H2 (.after c.k c.t c2) h2
      | false => exact q _ _ H1 (.plain c.k c.t ⟨.bl _, pd_bool _⟩) h1.h
    · exact h1.elim
theorem de_orV (ha : DE w K ta ma) (hb : DE w K tb mb) : DE w K (tOrV ta tb) (mOrV ma mb) := fun T F σ H ε Q Qm r h q =>
  ha T F σ H ε _ _ r h fun dv v H1 c h1 => by
    split at h1
    · rename_i b
      refine ⟨b, rv_bool c.rv, ?_⟩
      cases b with
      | true => exact q _ _ H1 (.plain c.k c.t ⟨.bl _, pd_bool _⟩) h1.h
      | false => exact hb T F σ H1 ε _ _ (c.rel r) h1.h fun dv v H2 c2 h2 => q dv v H2 (.after c.k c.t c2) h2
    · exact h1.elim
theorem de_notV (ha : DE w K ta ma) : DE w K (tNotV ta) (mNotV ma) := fun T F σ H ε Q Qm r h q =>
  ha T F σ H ε _ _ r h fun dv v H1 c h1 => by
    split at h1
    · rename_i b
      exact ⟨b, rv_bool c.rv, q _ _ H1 (.plain c.k c.t ⟨.bl _, pd_bool _⟩) h1⟩
    · exact h1.elim
/-! tests -/
theorem dt_b (ha : DE w K ta ma) : DT w K (tB ta) (mB ma) := fun T F σ H ε Q Qm r h q =>
  ha T F σ H ε _ _ r h fun dv v H1 c h1 => by
    split at h1
    · rename_i b
      exact ⟨b, rv_bool c.rv, q _ H1 c.k c.t h1⟩
    · exact h1.elim
theorem dt_test (ha : DE w K ta ma) : DT w K (tTest ta) (mB ma) := dt_b (w := w) ha
theorem tru_of {T : Tp} {H : Hp} {v : V} {dv : DV} {R : Bool → Prop} (h : RV w K T H v dv) (m : mTruD dv R) : ∃ k, TruV K v H k ∧ R k := by
  unfold mTruD at m
  split at m
  · rw [dp_none h.1]; exact ⟨_, rfl, m⟩
  · rw [dp_bool h.1]; exact ⟨_, rfl, m⟩
  · rw [dp_int h.1]; exact ⟨_, rfl, m⟩
  · rw [dp_str h.1]; exact ⟨_, ⟨m.1, rfl⟩, m.2⟩
  · rename_i xs
    obtain ⟨p, vs, rfl, hs, ha⟩ := dp_tup h.1
    refine ⟨_, .inr (.inl ⟨vs, hs, rfl⟩), ?_⟩
    cases ha <;> exact m
  · obtain ⟨a, vs, rfl, h1, h2, _⟩ := h
    refine ⟨_, .inl ⟨vs, sqL h1, rfl⟩, ?_⟩
    cases h2 <;> exact m
  · obtain ⟨a, vs, rfl, h1, h2⟩ := h
    refine ⟨_, .inr (.inr ⟨vs, h1, rfl⟩), ?_⟩
    cases h2 <;> exact m
  · exact m.elim
theorem dt_tru (ha : DE w K ta ma) : DT w K (fun σ H Q => ta σ H fun x H' => ∃ k, TruV K x H' k ∧ Q k H') (mTru ma) := fun T F σ H ε Q Qm r h q =>
  ha T F σ H ε _ _ r h fun dv v H1 c h1 => by
    obtain ⟨k, h2, h3⟩ := tru_of c.rv h1
    exact ⟨k, h2, q _ H1 c.k c.t h3⟩
theorem dt_and (ha : DT w K tt mt) (hb : DT w K tu mu) : DT w K (tAnd tt tu) (mAnd mt mu) := fun T F σ H ε Q Qm r h q =>
  ha T F σ H ε _ _ r h fun b H1 k t h1 => by
    cases b with
    | true => exact hb T F σ H1 ε _ _ (r.go k t) h1.h fun b H2 k2 t2 h2 => q b H2 (k.trans k2) t2 h2
    | false => exact q _ H1 k t h1.h
theorem dt_or (ha : DT w K tt mt) (hb : DT w K tu mu) : DT w K (tOr tt tu) (mOr mt mu) := fun T F σ H ε Q Qm r h q =>
  ha T F σ H ε _ _ r h fun b H1 k t h1 => by
    cases b with
    | true => exact q _ H1 k t h1.h
    | false => exact hb T F σ H1 ε _ _ (r.go k t) h1.h fun b H2 k2 t2 h2 => q b H2 (k.trans k2) t2 h2
theorem dt_not (ha : DT w K tt mt) : DT w K (tNot tt) (mNot mt) := fun T F σ H ε Q Qm r h q =>
  ha T F σ H ε _ _ r h fun b H1 k t h1 => q _ H1 k t h1
theorem de_orT (ha : DE w K ta ma) (hb : DE w K tb mb) : DE w K (tOrT K ta tb) (mOrT ma mb) := fun T F σ H ε Q Qm r h q =>
  ha T F σ H ε _ _ r h fun dv v H1 c h1 => by
    obtain ⟨k, h2, h3⟩ := tru_of c.rv h1
    refine ⟨k, h2, ?_⟩
    cases k with
    | true => exact q dv v H1 c h3.h
    | false => exact hb T F σ H1 ε _ _ (c.rel r) h3.h fun dv v H2 c2 h2 => q dv v H2 (.after c.k c.t c2) h2
end
end Mx
namespace Mx
open PySem PySem.Spec PyProof.Rows L2 Tq
variable [Tb]
/-! ### statements -/
def mNext (D : MEnds) (ε : Env) : Prop := D.nx ε
def mSeq (a b : MS) (D : MEnds) (ε : Env) : Prop := a { D with nx := b D } ε
def DV.sto : DV → Bool
  | .d _ => true
  | .v _ => true
  | .fk _ => true
  | .fr _ => true
  | .tp => false
  | .pt n _ => n
  | x => x.own
def mSet (i : Nat) (me : ME) (D : MEnds) (ε : Env) : Prop := me ε fun dv => dv.sto = true ∧ D.nx (ε.set i (some dv))
/-- x = y: what is owned moves -/
def mMove (i j : Nat) (D : MEnds) (ε : Env) : Prop := match ε[j]? with
  | some (some dv) => if dv.own = true then i ≠ j ∧ D.nx ((ε.set j none).set i (some dv)) else D.nx (ε.set i (some dv))
  | _ => False
def mRet (me : ME) (D : MEnds) (ε : Env) : Prop := me ε D.rt
def mRetV (i : Nat) (D : MEnds) (ε : Env) : Prop := match ε[i]? with
  | some (some (.l _ true xs)) => D.rt (.l true true xs)
  | some (some (.k _ true xs)) => D.rt (.k true true xs)
  | some (some (.s _ true xs)) => D.rt (.s true true xs)
  | some (some dv) => D.rt dv.sh
  | _ => False
def mRetN (D : MEnds) (_ : Env) : Prop := D.rt (.d .none)
def mDrop (me : ME) (D : MEnds) (ε : Env) : Prop := me ε fun _ => D.nx ε
def mIfS (c : MT) (a b : MS) (D : MEnds) (ε : Env) : Prop := c ε fun k => Cnd k (a D ε) (b D ε)
def mBreak (D : MEnds) (ε : Env) : Prop := D.bk ε
def mCont (D : MEnds) (ε : Env) : Prop := D.ct ε
def mApp (j : Nat) (me : ME) (D : MEnds) (ε : Env) : Prop := match ε[j]? with
  | some (some (.l true true xs)) => me ε fun dv => match dv with
    | .d y => xs.length < sizeLine ∧ D.nx (ε.set j (some (.l true true (xs ++ [y]))))
    | _ => False
  | _ => False
/-- xs.append(ys.pop(e)) -/
def mAppPop (j k : Nat) (me : ME) (D : MEnds) (ε : Env) : Prop := match ε[j]?, ε[k]? with
  | some (some (.l true true xs)), some (some (.l true true ys)) => me ε fun dv => match dv with
    | .d (.int i) => -(2 ^ 63) ≤ i ∧ i < 2 ^ 63 ∧ j ≠ k ∧ ∃ n y, seqIndex? i ys.length = some n ∧ ys[n]? = some y ∧ xs.length < sizeLine ∧ D.nx ((ε.set k (some (.l true true (ys.eraseIdx n)))).set j (some (.l true true (xs ++ [y]))))
    | _ => False
  | _, _ => False
/-- x = ys.pop(e) -/
def mSetPop (i k : Nat) (me : ME) (D : MEnds) (ε : Env) : Prop := match ε[k]? with
  | some (some (.l true true ys)) => me ε fun dv => match dv with
    | .d (.int z) => -(2 ^ 63) ≤ z ∧ z < 2 ^ 63 ∧ i ≠ k ∧ ∃ n y, seqIndex? z ys.length = some n ∧ ys[n]? = some y ∧ D.nx ((ε.set k (some (.l true true (ys.eraseIdx n)))).set i (some (.d y)))
    | _ => False
  | _ => False
/-- xs[i] = e -/
def mSetIx (j : Nat) (me mi : ME) (D : MEnds) (ε : Env) : Prop := me ε fun dv => match ε[j]? with
  | some (some (.l true true xs)) => mi ε fun di => match dv, di with
    | .d y, .d (.int i) => ∃ n, ixN xs.length i = some n ∧ D.nx (ε.set j (some (.l true true (xs.set n y))))
    | _, _ => False
  | _ => False
def keyD : PyData → Option Key
  | .int i => some (.inl i)
  | .str z => some (.inr z)
  | _ => none
def putD (kvs : List (Key × PyData)) (k : Key) (v : PyData) : List (Key × PyData) := if kvs.any (fun e => decide (e.1 = k)) then kvs.map (fun e => if e.1 = k then (e.1, v) else e) else kvs ++ [(k, v)]
/-- d[k] = e -/
def mPutD (j : Nat) (me mi : ME) (D : MEnds) (ε : Env) : Prop := me ε fun dv => match ε[j]? with
  | some (some (.k true true kvs)) => mi ε fun di => match dv, di with
    | .d y, .d x => match keyD x with
      | some k => kvs.length < sizeLine ∧ D.nx (ε.set j (some (.k true true (putD kvs k y))))
      | none => False
    | _, _ => False
  | _ => False
/-- x += e, ints -/
def mAugI (i : Nat) (f : Int → Int → Int) (me : ME) (D : MEnds) (ε : Env) : Prop := match ε[i]? with
  | some (some (.d (.int a))) => me ε fun dv => match dv with
    | .d (.int b) => D.nx (ε.set i (some (.d (.int (f a b)))))
    | _ => False
  | _ => False
def mPar (i j : Nat) (ma : MA) (D : MEnds) (ε : Env) : Prop := ma ε fun dvs => match dvs with
  | [.d x, .d y] => D.nx ((ε.set i (some (.d x))).set j (some (.d y)))
  | _ => False
/-! targets -/
abbrev MG := DV → Env → (Env → Prop) → Prop
abbrev MGs := List PyData → Env → (Env → Prop) → Prop
def mgName (i : Nat) (dv : DV) (ε : Env) (Q : Env → Prop) : Prop := Q (ε.set i (some dv))
def mgNil (xs : List PyData) (ε : Env) (Q : Env → Prop) : Prop := xs = [] ∧ Q ε
def mgCons (g : MG) (gs : MGs) (xs : List PyData) (ε : Env) (Q : Env → Prop) : Prop := match xs with
  | x :: r => g (.d x) ε fun ε' => gs r ε' Q
  | [] => False
def mgTup (n : Nat) (gs : MGs) (dv : DV) (ε : Env) (Q : Env → Prop) : Prop := match dv with
  | .d (.tuple xs) => xs.length = n ∧ gs xs ε Q
  | _ => False
def mAsg (me : ME) (g : MG) (D : MEnds) (ε : Env) : Prop := me ε fun dv => match dv with
  | .d x => g (.d x) ε D.nx
  | _ => False
/-! loops -/
abbrev MI := Env → (Env → List PyData → Prop) → Prop
/-- one after the other, by an invariant -/
structure ForGoal (g : MG) (body : MS) (D : MEnds) (ε : Env) (xs : List PyData) : Prop where
  h : ∃ I : Nat → Env → Prop, I 0 ε ∧
    (∀ (i : Nat) (x : PyData) (ε : Env), xs[i]? = some x → I i ε → g (.d x) ε fun ε' => body { D with nx := I (i + 1), ct := I (i + 1), bk := D.nx } ε') ∧ ∀ ε, I xs.length ε → D.nx ε
def mFor (mi : MI) (g : MG) (body : MS) (D : MEnds) (ε : Env) : Prop := mi ε fun ε1 xs => ForGoal g body D ε1 xs
structure WhGoal (c : MT) (body : MS) (D : MEnds) (ε : Env) : Prop where
  h : ∃ W : Nat → Env → Prop, (∃ m, W m ε) ∧ ∀ m ε, W m ε → c ε fun b => Cnd b (body { D with nx := fun ε' => ∃ m', m' < m ∧ W m' ε', ct := fun ε' => ∃ m', m' < m ∧ W m' ε', bk := D.nx } ε) (D.nx ε)
def mWhile (c : MT) (body : MS) (D : MEnds) (ε : Env) : Prop := WhGoal c body D ε
def wipeE (ε : Env) : List Nat → Env
  | [] => ε
  | v :: vs => (wipeE ε vs).set v none
structure LcGoal (g : MG) (mt : MT) (me : ME) (vs : List Nat) (ε : Env) (xs : List PyData) (Q : MQ) : Prop where
  h : ∃ I : Nat → List PyData → Prop, I 0 [] ∧
    (∀ (i : Nat) (x : PyData) (acc : List PyData), xs[i]? = some x → I i acc → g (.d x) (wipeE ε vs) fun ε' => mt ε' fun b => Cnd b (me ε' fun dv => match dv with
      | .d y => acc.length < sizeLine ∧ I (i + 1) (acc ++ [y])
      | _ => False) (I (i + 1) acc)) ∧ ∀ acc, I xs.length acc → Q (.l true true acc)
def mLc (mi : MI) (g : MG) (mt : MT) (me : ME) (vs : List Nat) (ε0 : Env) (Q : MQ) : Prop := mi ε0 fun ε xs => LcGoal g mt me vs ε xs Q
def mYes (_ : Env) (Q : Bool → Prop) : Prop := Q true
/-! what is walked -/
def miVarT (i : Nat) (ε : Env) (R : Env → List PyData → Prop) : Prop := match ε[i]? with
  | some (some (.d (.tuple xs))) => R ε xs
  | _ => False
def miVarL (i : Nat) (ε : Env) (R : Env → List PyData → Prop) : Prop := match ε[i]? with
  | some (some (.l _ n xs)) => R (ε.set i (some (.l false n xs))) xs
  | _ => False
def miET (me : ME) (ε : Env) (R : Env → List PyData → Prop) : Prop := me ε fun dv => match dv with
  | .d (.tuple xs) => R ε xs
  | _ => False
def miEL (me : ME) (ε : Env) (R : Env → List PyData → Prop) : Prop := me ε fun dv => match dv with
  | .l _ true xs => R ε xs
  | _ => False
def miS (me : ME) (ε : Env) (R : Env → List PyData → Prop) : Prop := me ε fun dv => match dv with
  | .d (.str z) => R ε (z.cps.toList.map fun c => .str ⟨#[c]⟩)
  | _ => False
def enD (xs : List PyData) : List PyData := xs.mapIdx fun i x => .tuple [.int i, x]
/-- enumerate of a tuple -/
def miEnT (ma : MA) (ε : Env) (R : Env → List PyData → Prop) : Prop := ma ε fun dvs => match dvs with
  | [.d (.tuple xs)] => R ε (enD xs)
  | _ => False
/-- zip of two tuples, or of two lists -/
def miZip (ma : MA) (ε : Env) (R : Env → List PyData → Prop) : Prop := ma ε fun dvs => match dvs with
  | [.d (.tuple xs), .d (.tuple ys)] => R ε ((xs.zip ys).map fun p => .tuple [p.1, p.2])
  | _ => False
def miRev (me : ME) (ε : Env) (R : Env → List PyData → Prop) : Prop := me ε fun dv => match dv with
  | .d (.tuple xs) => R ε xs.reverse
  | _ => False
def miRevV (i : Nat) (ε : Env) (R : Env → List PyData → Prop) : Prop := match ε[i]? with
  | some (some (.l _ n xs)) => R (ε.set i (some (.l false n xs))) xs.reverse
  | _ => False
def rngD (lo : Int) (n : Nat) : List PyData := (List.range n).map fun (i : Nat) => PyData.int (lo + i)
def miRng1 (ma : MA) (ε : Env) (R : Env → List PyData → Prop) : Prop := ma ε fun dvs => match dvs with
  | [.d (.int j)] => -(2 ^ 62) ≤ j ∧ j < 2 ^ 62 ∧ R ε (rngD 0 j.toNat)
  | _ => False
def miRng2 (ma : MA) (ε : Env) (R : Env → List PyData → Prop) : Prop := ma ε fun dvs => match dvs with
  | [.d (.int i), .d (.int j)] => (-(2 ^ 62) ≤ i ∧ i < 2 ^ 62 ∧ -(2 ^ 62) ≤ j ∧ j < 2 ^ 62) ∧ R ε (rngD i (j - i).toNat)
  | _ => False
/-! ### soundness -/
section
variable {w : World} {K : PySem.W.Frag} {te ta tb : TE} {me ma mb : ME} {tt tu : TT} {mt mu : MT} {tr tk : TA} {mr mk : MA} {ts tv : TS} {ms mv : MS} {g : TG} {mg : MG}
theorem Sub.refl {D : Ends} : Sub D D := ⟨fun _ _ h => h, fun _ _ h => h, fun _ _ h => h, fun _ _ h => h⟩
theorem ds_next : DS w K tNext mNext := fun T F σ H ε D E r h s => s.nx σ H ⟨ε, r, h⟩
theorem ds_seq (h1 : DS w K ts ms) (h2 : DS w K tv mv) : DS w K (tSeq ts tv) (mSeq ms mv) := fun T F σ H ε D E r h s =>
  h1 T F σ H ε { D with nx := mv D } { E with nx := tv E } r h ⟨fun σ' H' ⟨ε', r', h'⟩ => h2 T F σ' H' ε' D E r' h' s, s.rt, s.bk, s.ct⟩
theorem Rel.store {T : Tp} {F : Fr} {σ : L2.St} {H H1 : Hp} {ε : Env} {v : V} {dv : DV} (r : Rel w K T F σ H ε) (c : Came w K T H H1 v dv) (so : dv.sto = true) (i : Nat) : Rel w K T F (σ.set i (some v)) H1 (ε.set i (some dv)) := by
  have r1 := c.rel r
  have n := c.o
  refine r1.set c.rv (fun nw a e => ?_) (fun ow => ⟨n ow, fun a e => ⟨fun p hp q => ?_, fun j dj nj ej oj sj => ?_⟩⟩) (fun ob a e j dj nj ej oj sj => ?_)
  · exact r.keep.free r.t1 (c.n nw a e)
  · have := (r.fz p hp).1
    rw [q, c.n (n ow) a e] at this; cases this
  · obtain ⟨u, h1, h2⟩ := r.val j dj ej
    obtain ⟨b, o, e2, h3⟩ := h2.obj_at oj
    rw [sj] at h1; cases h1
    cases e2
    rw [c.n (n ow) a e] at h3; cases h3
  · obtain ⟨u, h1, h2⟩ := r.val j dj ej
    obtain ⟨b, o, e2, h3⟩ := h2.obj_at (own_obj oj)
    rw [sj] at h1; cases h1
    cases e2
    have nw : dv.new = true := by cases dv <;> first | exact n so | exact so | cases ob
    rw [c.n nw a e] at h3; cases h3
theorem ds_set {i : Nat} (he : DE w K te me) : DS w K (tAsg te (gName i)) (mSet i me) := fun T F σ H ε D E r h s =>
  he T F σ H ε _ _ r h fun dv v H1 c h1 => s.nx _ _ ⟨_, r.store c h1.1 i, h1.2⟩
theorem ds_ret (he : DE w K te me) : DS w K (tRet te) (mRet me) := fun T F σ H ε D E r h s =>
  he T F σ H ε _ _ r h fun dv v H1 c h1 => s.rt _ _ ⟨dv, .after r.keep r.t1 c, (c.rel r).tk, fun p hp => ((c.rel r).fz p hp).1, h1⟩
theorem ds_retV {i : Nat} : DS w K (tRet (tVar i)) (mRetV i) := by
  intro T F σ H ε D E r h s
  unfold mRetV at h
  have go : ∀ dv dw, ε[i]? = some (some dv) → D.rt dw → (∀ v, RV w K T H v dv → RV w K T H v dw) → (dw.new = true → dv.new = true) → (dw.own = true → dw.new = true) → tRet (tVar i) E σ H := fun dv dw e hd rv nw ow => by
    obtain ⟨v, h1, h2⟩ := r.val _ _ e
    exact ⟨v, h1, s.rt _ _ ⟨dw, ⟨r.keep, r.t1, rv v h2, (fun n a ea => r.new i dv a e (nw n) (by rw [h1, ea])), ow⟩, r.tk, fun p hp => (r.fz p hp).1, hd⟩⟩
  split at h
  · rename_i o xs e; exact go _ _ e h (fun v q => q) (fun q => q) (fun q => q)
  · rename_i o xs e; exact go _ _ e h (fun v q => q) (fun q => q) (fun q => q)
  · rename_i o xs e; exact go _ _ e h (fun v q => q) (fun q => q) (fun q => q)
  · rename_i dv _ _ _ e; exact go _ _ e h (fun v q => q.shd) (fun q => by cases dv <;> cases q) (fun q => by cases dv <;> cases q)
  · exact h.elim
theorem ds_retN : DS w K tRetN mRetN := fun T F σ H ε D E r h s => s.rt _ _ ⟨_, .plain r.keep r.t1 ⟨.non, pd_none⟩, r.tk, fun p hp => (r.fz p hp).1, h⟩
theorem ds_drop (he : DE w K te me) : DS w K (tDrop te) (mDrop me) := fun T F σ H ε D E r h s =>
  he T F σ H ε _ _ r h fun dv v H1 c h1 => s.nx _ _ ⟨ε, c.rel r, h1⟩
theorem ds_ifs (hc : DT w K tt mt) (h1 : DS w K ts ms) (h2 : DS w K tv mv) : DS w K (tIfS tt ts tv) (mIfS mt ms mv) := fun T F σ H ε D E r h s =>
  hc T F σ H ε _ _ r h fun b H1 k t h3 => by
    cases b with
    | true => exact h1 T F σ H1 ε D E (r.go k t) h3.h s
    | false => exact h2 T F σ H1 ε D E (r.go k t) h3.h s
theorem ds_break : DS w K tBreak mBreak := fun T F σ H ε D E r h s => s.bk σ H ⟨ε, r, h⟩
theorem ds_cont : DS w K tCont mCont := fun T F σ H ε D E r h s => s.ct σ H ⟨ε, r, h⟩
theorem Rel.at {T : Tp} {F : Fr} {σ : L2.St} {H : Hp} {ε : Env} {j : Nat} {o n : Bool} {xs : List PyData} (r : Rel w K T F σ H ε) (e : ε[j]? = some (some (.l o n xs))) : ∃ a vs, σ[j]? = some (some (.ref a)) ∧ H a = some (.lst vs) ∧ DpAll K H vs xs ∧ (∀ x ∈ xs, Pd x) ∧ ∀ p ∈ T, a ≠ p.1 := by
  obtain ⟨v, h1, a, vs, rfl, h2⟩ := r.val _ _ e
  exact ⟨a, vs, h1, h2⟩
/-- a list of one's own gets other items -/
theorem Rel.relist {T : Tp} {F : Fr} {σ : L2.St} {H : Hp} {ε : Env} {j : Nat} {xs ys : List PyData} {a : Addr} {vs us : List V} (r : Rel w K T F σ H ε) (e : ε[j]? = some (some (.l true true xs))) (s : σ[j]? = some (some (.ref a))) (h : H a = some (.lst vs))
    (d : DpAll K H us ys) (p : ∀ x ∈ ys, Pd x) : Rel w K T F σ (upd H a (.lst us)) (ε.set j (some (.l true true ys))) := by
  obtain ⟨b, vs', h1, h2, h3, h4, h5⟩ := r.at e
  rw [s] at h1; cases h1
  exact r.write e rfl s rfl rfl h (fun _ q => nomatch q) (fun _ _ q => nomatch q) ⟨a, us, rfl, upd_same, DpAll.keep (TK.put h) _ _ (pu_all p) d, p, h5⟩
theorem ds_app {j : Nat} (he : DE w K te me) : DS w K (tDrop (tBM K "list" rAppend (tVar j) (tCons te tNil))) (mApp j me) := by
  intro T F σ H ε D E r h s
  unfold mApp at h
  split at h
  · rename_i xs e
    obtain ⟨a, vs, h1, h2, h3, h4, h5⟩ := r.at e
    refine ⟨_, h1, l_tyL (sqL h2), he T F σ H ε _ _ r h fun dv v H1 c h6 => ?_⟩
    split at h6
    · rename_i y
      have r1 := c.rel r
      have h7 := c.k a _ h5 h2
      refine ⟨a, vs, v, rfl, rfl, h7, by rw [h3.len]; exact h6.1, s.nx _ _ ⟨_, r1.relist e h1 h7 ((DpAll.keep (c.k.tk r.t1) _ _ (pu_all h4) h3).snoc c.rv.1) ?_, h6.2⟩⟩
      intro x m
      rcases List.mem_append.mp m with m | m
      · exact h4 x m
      · rw [List.mem_singleton.mp m]; exact c.rv.2
    · exact h6.elim
  · exact h.elim
theorem dpAll_erase {H : Hp} {vs : List V} {xs : List PyData} (n : Nat) (h : DpAll K H vs xs) : DpAll K H (vs.eraseIdx n) (xs.eraseIdx n) := by
  induction n generalizing vs xs with
  | zero => cases h with
    | nil => exact .nil
    | cons a b => exact b
  | succ n ih => cases h with
    | nil => exact .nil
    | cons a b => exact .cons a (ih b)
theorem mem_erase {α : Type} {l : List α} {n : Nat} {x : α} (h : x ∈ l.eraseIdx n) : x ∈ l := (List.eraseIdx_sublist l n).subset h
theorem ds_appPop {j k : Nat} (he : DE w K te me) : DS w K (tDrop (tBM K "list" rAppend (tVar j) (tCons (tBM K "list" rPopAt (tVar k) (tCons te tNil)) tNil))) (mAppPop j k me) := by
  intro T F σ H ε D E r h s
  unfold mAppPop at h
  split at h
  · rename_i xs ys e e2
    obtain ⟨a, vs, h1, h2, h3, h4, h5⟩ := r.at e
    obtain ⟨b, us, g1, g2, g3, g4, g5⟩ := r.at e2
    refine ⟨_, h1, l_tyL (sqL h2), _, g1, l_tyL (sqL g2), he T F σ H ε _ _ r h fun dv v H1 c h6 => ?_⟩
    split at h6
    · rename_i i
      obtain ⟨i0, i1, nk, n, y, e3, e4, sz, q⟩ := h6
      have r1 := c.rel r
      have k3 := DpAll.keep (c.k.tk r.t1) _ _ (pu_all g4) g3
      obtain ⟨z, hz, dz⟩ := k3.of e4
      have ne : a ≠ b := fun q => nk (r.one j k _ _ a e rfl e2 rfl h1 (by rw [q]; exact g1))
      have b1 := c.k b _ g5 g2
      have a1 := c.k a _ h5 h2
      have y1 : Pd y := g4 y (List.mem_of_getElem? e4)
      have r2 := r1.relist e2 g1 b1 (dpAll_erase n k3) (fun x m => g4 x (mem_erase m))
      have e' : (ε.set k (some (.l true true (ys.eraseIdx n))))[j]? = some (some (.l true true xs)) := by rw [List.getElem?_set_ne nk.symm]; exact e
      have a2 : upd H1 b (.lst (us.eraseIdx n)) a = some (.lst vs) := by rw [upd_ne ne]; exact a1
      have tk2 : TK H1 (upd H1 b (.lst (us.eraseIdx n))) := TK.put b1
      refine ⟨b, us, i, n, z, rfl, by rw [dp_int c.rv.1], b1, i0, i1, by rw [g3.len]; exact e3, hz, a, vs, z, rfl, rfl, a2, by rw [h3.len]; exact sz, s.nx _ _ ⟨_, r2.relist e' h1 a2 ((DpAll.keep ((c.k.tk r.t1).trans tk2) _ _ (pu_all h4) h3).snoc (Dp.keep tk2 _ _ y1.1 dz)) ?_, q⟩⟩
      intro x m
      rcases List.mem_append.mp m with m | m
      · exact h4 x m
      · rw [List.mem_singleton.mp m]; exact y1
    · exact h6.elim
  · exact h.elim
theorem ds_setPop {i k : Nat} (he : DE w K te me) : DS w K (tAsg (tBM K "list" rPopAt (tVar k) (tCons te tNil)) (gName i)) (mSetPop i k me) := by
  intro T F σ H ε D E r h s
  unfold mSetPop at h
  split at h
  · rename_i ys e2
    obtain ⟨b, us, g1, g2, g3, g4, g5⟩ := r.at e2
    refine ⟨_, g1, l_tyL (sqL g2), he T F σ H ε _ _ r h fun dv v H1 c h6 => ?_⟩
    split at h6
    · rename_i z
      obtain ⟨i0, i1, nk, n, y, e3, e4, q⟩ := h6
      have r1 := c.rel r
      have k3 := DpAll.keep (c.k.tk r.t1) _ _ (pu_all g4) g3
      obtain ⟨x, hz, dz⟩ := k3.of e4
      have b1 := c.k b _ g5 g2
      have y1 : Pd y := g4 y (List.mem_of_getElem? e4)
      have r2 := r1.relist e2 g1 b1 (dpAll_erase n k3) (fun x m => g4 x (mem_erase m))
      have tk2 : TK H1 (upd H1 b (.lst (us.eraseIdx n))) := TK.put b1
      exact ⟨b, us, z, n, x, rfl, by rw [dp_int c.rv.1], b1, i0, i1, by rw [g3.len]; exact e3, hz, s.nx _ _ ⟨_, r2.setD ⟨Dp.keep tk2 _ _ y1.1 dz, y1⟩, q⟩⟩
    · exact h6.elim
  · exact h.elim
theorem mem_set_of {α : Type} {l : List α} {n : Nat} {x y : α} (h : x ∈ l.set n y) : x ∈ l ∨ x = y := List.mem_or_eq_of_mem_set h
theorem ds_setIx {j : Nat} (he : DE w K te me) (hi : DE w K ta ma) : DS w K (tAsg te (gSub (tVar j) ta rSetL)) (mSetIx j me ma) := by
  intro T F σ H ε D E r h s
  refine he T F σ H ε _ _ r h fun dv v H1 c h1 => ?_
  split at h1
  · rename_i xs e
    obtain ⟨a, vs, g1, g2, g3, g4, g5⟩ := r.at e
    refine ⟨_, g1, hi T F σ H1 ε _ _ (c.rel r) h1 fun di u H2 c2 h2 => ?_⟩
    split at h2
    · rename_i y i
      obtain ⟨n, e3, q⟩ := h2
      have r2 := c2.rel (c.rel r)
      have a2 := c2.k a _ g5 (c.k a _ g5 g2)
      have y2 := c.rv.keep c.t c2.k
      refine ⟨a, vs, i, n, rfl, dp_int c2.rv.1, a2, by rw [g3.len]; exact e3, s.nx _ _ ⟨_, r2.relist e g1 a2 (dpAll_set n (DpAll.keep ((c.k.trans c2.k).tk r.t1) _ _ (pu_all g4) g3) y2.1) ?_, q⟩⟩
      intro x m
      rcases mem_set_of m with m | rfl
      · exact g4 x m
      · exact y2.2
    · exact h2.elim
  · exact h1.elim
theorem kv_put {H : Hp} {k : Key} {v : V} {y : PyData} : ∀ {ws : List (Key × V)} {kvs : List (Key × PyData)}, KvAt K H ws kvs → Dp K H v y → Pd y → KvAt K H (putK ws k v) (putD kvs k y) := by
  intro ws kvs h d p
  have an : ∀ {ws : List (Key × V)} {kvs : List (Key × PyData)}, KvAt K H ws kvs → ws.any (fun e => decide (e.1 = k)) = kvs.any (fun e => decide (e.1 = k)) := by
    intro ws kvs h
    unfold KvAt at h
    induction h with
    | nil => rfl
    | cons a _ ih => rw [List.any_cons, List.any_cons, ih, a.1]
  unfold putK putD
  rw [an h]
  split
  · unfold KvAt at *
    rename_i hany
    clear an hany
    induction h with
    | nil => exact .nil
    | cons a _ ih =>
      rename_i p q _ _ _
      refine .cons ?_ ih
      show (if p.1 = k then (p.1, v) else p).1 = (if q.1 = k then (q.1, y) else q).1 ∧ Dp K H (if p.1 = k then (p.1, v) else p).2 (if q.1 = k then (q.1, y) else q).2 ∧ Pd (if q.1 = k then (q.1, y) else q).2
      rw [a.1]
      split
      · exact ⟨rfl, d, by assumption⟩
      · exact a
  · exact Paired.snoc h ⟨rfl, d, p⟩
end
end Mx
namespace Mx
open PySem PySem.Spec PyProof.Rows L2 Tq
variable [Tb]
section
variable {w : World} {K : PySem.W.Frag} {te ta tb : TE} {me ma mb : ME} {tt tu : TT} {mt mu : MT} {tr tk : TA} {mr mk : MA} {ts tv : TS} {ms mv : MS} {g : TG} {mg : MG}
theorem rv_d {T : Tp} {H : Hp} {v : V} {x : PyData} (h : Dp K H v x) (p : Pd x) : RV w K T H v (.d x) := ⟨h, p⟩
theorem keyD_v {H : Hp} {v : V} {x : PyData} {k : Key} (h : Dp K H v x) (e : keyD x = some k) : v = kV k := by
  cases x <;> first | cases e | skip
  · rw [dp_int h]; rfl
  · rw [dp_str h]; rfl
theorem ds_putD {j : Nat} (he : DE w K te me) (hi : DE w K ta ma) : DS w K (tAsg te (gSub (tVar j) ta rSetD)) (mPutD j me ma) := by
  intro T F σ H ε D E r h s
  refine he T F σ H ε _ _ r h fun dv v H1 c h1 => ?_
  split at h1
  · rename_i kvs e
    obtain ⟨u, g1, a, ws, rfl, g2, g3⟩ := r.val _ _ e
    have g5 : ∀ p ∈ T, a ≠ p.1 := RV.ne (w := w) (K := K) (dv := .k true true kvs) ⟨a, ws, rfl, g2, g3⟩ r.t1 rfl rfl
    refine ⟨_, g1, hi T F σ H1 ε _ _ (c.rel r) h1 fun di u H2 c2 h2 => ?_⟩
    split at h2
    · rename_i y x
      split at h2
      · rename_i k ek
        have r2 := c2.rel (c.rel r)
        have a2 := c2.k a _ g5 (c.k a _ g5 g2)
        have y2 := c.rv.keep c.t c2.k
        have kv2 := g3.keep ((c.k.trans c2.k).tk r.t1)
        have ln : ws.length = kvs.length := Paired.length g3
        refine ⟨a, _, rfl, by rw [keyD_v c2.rv.1 ek]; exact DPut.k a2 (by rw [ln]; exact h2.1), s.nx _ _ ⟨_, r2.write e rfl g1 rfl rfl a2 (fun _ q => nomatch q) (fun _ _ q => nomatch q) (show RV w K T _ _ (.k true true (putD kvs k y)) from ⟨a, _, rfl, upd_same, (kv_put kv2 y2.1 y2.2).keep (TK.putD a2)⟩), h2.2⟩⟩
      · exact h2.elim
    · exact h2.elim
  · exact h1.elim
theorem ds_augI {i : Nat} {f : Int → Int → Int} (he : DE w K te me) : DS w K (tAug i te (ipI f)) (mAugI i f me) := by
  intro T F σ H ε D E r h s
  unfold mAugI at h
  split at h
  · rename_i a e
    obtain ⟨v, h1, h2⟩ := r.val _ _ e
    refine ⟨v, h1, he T F σ H ε _ _ r h fun dv v2 H1 c h3 => ?_⟩
    split at h3
    · rename_i b
      exact ⟨a, b, dp_int h2.1, dp_int c.rv.1, s.nx _ _ ⟨_, (c.rel r).setD ⟨.int _, pd_int _⟩, h3⟩⟩
    · exact h3.elim
  · exact h.elim
theorem ds_par {i j : Nat} (ha : DA w K tr mr) : DS w K (tPar i j tr) (mPar i j mr) := by
  intro T F σ H ε D E r h s
  refine ha T F σ H ε _ _ r h fun dvs vs H1 k t p h1 => ?_
  split at h1
  · cases p with
    | cons a p => cases p with
      | cons b p =>
        cases p
        exact ⟨_, _, rfl, s.nx _ _ ⟨_, ((r.go k t).setD a.1).setD b.1, h1⟩⟩
  · exact h1.elim
theorem ds_move {i j : Nat} : DS w K (tAsg (tVar j) (gName i)) (mMove i j) := by
  intro T F σ H ε D E r h s
  unfold mMove at h
  split at h
  · rename_i dv e
    obtain ⟨v, h1, h2⟩ := r.val _ _ e
    refine ⟨v, h1, ?_⟩
    split at h
    · rename_i ow
      refine s.nx _ _ ⟨_, (r.drop j).set h2 (fun n a ea => r.new j dv a e n (by rw [h1, ea])) (fun _ => ?_) (fun ob a ea k dk nk ek ok => ?_), h.2⟩
      · obtain ⟨a, o, ea, _⟩ := h2.obj_at (own_obj ow)
        have := r.own j dv a e ow (by rw [h1, ea])
        refine ⟨this.1, fun b eb => ?_⟩
        rw [ea] at eb; cases eb
        refine ⟨this.2, fun k dk nk ek ok sk => ?_⟩
        rcases get_set ek with ⟨rfl, e2, _⟩ | ⟨n, e2⟩
        · cases e2
        · exact n (r.one j k dv dk a e ow e2 ok (by rw [h1, ea]) sk)
      · rcases get_set ek with ⟨rfl, e2, _⟩ | ⟨n, e2⟩
        · cases e2
        · intro sk
          exact n (r.one j k dv dk a e ow e2 (own_obj ok) (by rw [h1, ea]) sk)
    · rename_i ow
      have ow : dv.own = false := by simpa using ow
      refine s.nx _ _ ⟨_, r.set h2 (fun n a ea => r.new j dv a e n (by rw [h1, ea])) (fun q => by rw [ow] at q; cases q) (fun ob a ea k dk nk ek ok sk => ?_), h⟩
      have := r.one k j dk dv a ek ok e ob sk (by rw [h1, ea])
      subst this
      rw [ek] at e; cases e
      rw [ow] at ok; cases ok
  · exact h.elim
/-! targets -/
theorem wipe_get (σ : L2.St) (j : Nat) : ∀ vs : List Nat, (wipe σ vs)[j]? = if j ∈ vs then (σ[j]?).map (fun _ => none) else σ[j]?
  | [] => by simp [wipe]
  | v :: vs => by
    unfold wipe
    by_cases e : v = j
    · subst e
      rw [if_pos List.mem_cons_self]
      by_cases l : v < (wipe σ vs).length
      · rw [List.getElem?_set_self l]
        rw [wipe_length] at l
        rw [List.getElem?_eq_getElem l]; rfl
      · rw [List.getElem?_eq_none (by rw [List.length_set]; omega)]
        rw [wipe_length] at l
        rw [List.getElem?_eq_none (by omega)]; rfl
    · rw [List.getElem?_set_ne e, wipe_get σ j vs]
      by_cases m : j ∈ vs
      · rw [if_pos m, if_pos (List.mem_cons_of_mem _ m)]
      · rw [if_neg m, if_neg (by rw [List.mem_cons]; rintro (q | q); exact e q.symm; exact m q)]
theorem wipe_set {σ : L2.St} {i : Nat} {x : Option V} {vs : List Nat} (h : i ∈ vs) : wipe (σ.set i x) vs = wipe σ vs := by
  apply List.ext_getElem?
  intro j
  rw [wipe_get, wipe_get]
  by_cases e : i = j
  · subst e
    rw [if_pos h, if_pos h]
    by_cases l : i < σ.length
    · rw [List.getElem?_set_self l, List.getElem?_eq_getElem l]; rfl
    · rw [List.getElem?_eq_none (by rw [List.length_set]; omega), List.getElem?_eq_none (by omega)]
  · rw [List.getElem?_set_ne e]
theorem wipe_wipe (σ : L2.St) (vs : List Nat) : wipe (wipe σ vs) vs = wipe σ vs := by
  apply List.ext_getElem?
  intro j
  rw [wipe_get, wipe_get]
  by_cases m : j ∈ vs
  · rw [if_pos m, if_pos m]; cases σ[j]? <;> rfl
  · rw [if_neg m, if_neg m]
theorem dg_name {i : Nat} : DG w K (gName i) (mgName i) [i] := fun T F σ H ε v x Q Qm r hv h q =>
  q _ _ (r.setD hv) (fun vs m => wipe_set (m i (List.mem_singleton.mpr rfl))) h
def DGs (w : World) (K : PySem.W.Frag) (g : TGs) (mg : MGs) (ss : List Nat) : Prop := ∀ T F σ H ε vs xs (Q : L2.St → Hp → Prop) (Qm : Env → Prop), Rel w K T F σ H ε → DpAll K H vs xs → (∀ x ∈ xs, Pd x) → mg xs ε Qm → (∀ σ' ε', Rel w K T F σ' H ε' → (∀ vs, (∀ i ∈ ss, i ∈ vs) → wipe σ' vs = wipe σ vs) → Qm ε' → Q σ' H) → g vs σ H Q
theorem dgs_nil : DGs w K gNil mgNil [] := fun T F σ H ε vs xs Q Qm r d p h q => by
  obtain ⟨rfl, h⟩ := h
  cases d
  exact ⟨rfl, q σ ε r (fun _ _ => rfl) h⟩
theorem dgs_cons {gs : TGs} {mgs : MGs} {s1 s2 : List Nat} (h1 : DG w K g mg s1) (h2 : DGs w K gs mgs s2) : DGs w K (gCons g gs) (mgCons mg mgs) (s1 ++ s2) := fun T F σ H ε vs xs Q Qm r d p h q => by
  unfold mgCons at h
  cases d with
  | nil => exact h.elim
  | cons a b =>
    refine ⟨_, _, rfl, h1 T F σ H ε _ _ _ _ r ⟨a, p _ List.mem_cons_self⟩ h fun σ' ε' r' wp h' => ?_⟩
    exact h2 T F σ' H ε' _ _ _ _ r' b (fun x m => p x (List.mem_cons_of_mem _ m)) h' fun σ2 ε2 r2 wp2 h3 => q σ2 ε2 r2 (fun vs m => (wp2 vs fun i mi => m i (List.mem_append_right _ mi)).trans (wp vs fun i mi => m i (List.mem_append_left _ mi))) h3
theorem dg_tup {n : Nat} {gs : TGs} {mgs : MGs} {ss : List Nat} (h1 : DGs w K gs mgs ss) : DG w K (gTup K n gs) (mgTup n mgs) ss := fun T F σ H ε v x Q Qm r hv h q => by
  unfold mgTup at h
  split at h
  · rename_i xs e
    cases e
    obtain ⟨a, vs, rfl, hs, ha⟩ := dp_tup hv.1
    exact ⟨a, vs, rfl, hs, by rw [ha.len]; exact h.1, h1 T F σ H ε _ _ _ _ r ha (pd_in hv.2) h.2 q⟩
  · exact h.elim
theorem ds_asg {ss : List Nat} (he : DE w K te me) (hg : DG w K g mg ss) : DS w K (tAsg te g) (mAsg me mg) := fun T F σ H ε D E r h s =>
  he T F σ H ε _ _ r h fun dv v H1 c h1 => by
    split at h1
    · exact hg T F σ H1 ε _ _ _ _ (c.rel r) c.rv h1 fun σ' ε' r' _ h2 => s.nx _ _ ⟨ε', r', h2⟩
    · exact h1.elim
/-! loops -/
/-- it yields the data one by one as long as fzs stands -/
def Walk (w : World) (K : PySem.W.Frag) (T : Tp) (J : It) (H1 : Hp) (fzs : List (Addr × HO)) (xs : List PyData) : Prop := ∀ i H', TK H1 H' → (∀ p ∈ fzs, H' p.1 = some p.2) → TOk T H' →
  (i = xs.length → J.stop i H') ∧ ∀ x, xs[i]? = some x → J.go i H' ∧ ∀ v H'', J.yld i H' v H'' → Keep T H' H'' ∧ TOk T H'' ∧ RV w K T H'' v (.d x)
def DI (w : World) (K : PySem.W.Frag) (wi : TI) (mi : MI) : Prop := ∀ T F σ H ε (R : It → Hp → Prop) (Rm : Env → List PyData → Prop), Rel w K T F σ H ε → mi ε Rm →
  (∀ J H1 ε1 xs fzs, Keep T H H1 → TOk T H1 → Rel w K T ⟨F.H0, H1, fzs ++ F.fz⟩ σ H1 ε1 → TK F.Hb H1 → Walk w K T J H1 fzs xs → (∀ p ∈ fzs, H p.1 = none ∨ ∃ (i : Nat) (dv : DV), ε[i]? = some (some dv) ∧ dv.obj = true ∧ σ[i]? = some (some (.ref p.1))) → Rm ε1 xs → R J H1) → wi σ H R
theorem Rel.wk {T : Tp} {F F' : Fr} {σ : L2.St} {H : Hp} {ε : Env} (r : Rel w K T F' σ H ε) (h0 : F'.H0 = F.H0) (tk : TK F.Hb F'.Hb) (fz : ∀ p ∈ F.fz, p ∈ F'.fz) : Rel w K T F σ H ε where
  keep := h0 ▸ r.keep
  t0 := h0 ▸ r.t0
  t1 := r.t1
  tk := tk.trans r.tk
  fz p hp := r.fz p (fz p hp)
  val := r.val
  new := h0 ▸ r.new
  own i dv a e o s := ⟨(r.own i dv a e o s).1, fun p hp => (r.own i dv a e o s).2 p (fz p hp)⟩
  one := r.one
  len := r.len
theorem ds_for {wi : TI} {mi : MI} {ss : List Nat} (hi : DI w K wi mi) (hg : DG w K g mg ss) (hb : DS w K ts ms) : DS w K (tFor wi g ts) (mFor mi mg ms) := by
  intro T F σ H ε D E r h s
  refine hi T F σ H ε _ _ r h fun J H1 ε1 xs fzs k1 t1 r1 tk1 wk _ h1 => ?_
  obtain ⟨I, i0, hs, hd⟩ := h1.h
  have back : ∀ {σ' : L2.St} {H' : Hp} {ε' : Env}, Rel w K T ⟨F.H0, H1, fzs ++ F.fz⟩ σ' H' ε' → Rel w K T F σ' H' ε' := fun r' => r'.wk rfl tk1 fun p hp => List.mem_append_right _ hp
  refine ⟨fun i m σ' H' => m = xs.length - i ∧ i ≤ xs.length ∧ ∃ ε', Rel w K T ⟨F.H0, H1, fzs ++ F.fz⟩ σ' H' ε' ∧ I i ε', ⟨_, rfl, Nat.zero_le _, ε1, r1, i0⟩, ?_⟩
  rintro i m σ' H' ⟨rfl, le, ε', r', hI⟩
  have wk' := wk i H' r'.tk (fun p hp => (r'.fz p (List.mem_append_left _ hp)).1) r'.t1
  by_cases lt : i < xs.length
  · obtain ⟨go, yl⟩ := wk'.2 _ (List.getElem?_eq_getElem lt)
    refine .inr ⟨go, fun σ2 H2 => ∃ ε2, Rel w K T ⟨F.H0, H1, fzs ++ F.fz⟩ σ2 H2 ε2 ∧ I (i + 1) ε2, fun σ2 H2 n => ⟨xs.length - (i + 1), by omega, rfl, lt, n⟩, fun x H2 y => ?_⟩
    obtain ⟨k2, t2, rv⟩ := yl x H2 y
    refine hg T _ σ' H2 ε' _ _ _ _ (r'.go k2 t2) rv (hs i _ ε' (List.getElem?_eq_getElem lt) hI) fun σ3 ε3 r3 _ h3 => ?_
    refine hb T _ σ3 H2 ε3 _ _ r3 h3 ⟨fun σ4 H4 q => q, fun v H4 q => ?_, fun σ4 H4 q => ?_, fun σ4 H4 q => q⟩
    · obtain ⟨dv, c, tk, fz, q⟩ := q
      exact s.rt _ _ ⟨dv, c, tk1.trans tk, fun p hp => fz p (List.mem_append_right _ hp), q⟩
    · obtain ⟨ε4, r4, q⟩ := q
      exact s.nx _ _ ⟨ε4, back r4, q⟩
  · have e : i = xs.length := by omega
    subst e
    exact .inl ⟨wk'.1 rfl, s.nx _ _ ⟨ε', back r', hd ε' hI⟩⟩
theorem ds_while (hc : DT w K tt mt) (hb : DS w K ts ms) : DS w K (tWhile tt ts) (mWhile mt ms) := by
  intro T F σ H ε D E r h s
  obtain ⟨W, ⟨m0, w0⟩, hs⟩ := h.h
  refine ⟨fun m σ' H' => ∃ ε', Rel w K T F σ' H' ε' ∧ W m ε', ⟨m0, ε, r, w0⟩, ?_⟩
  rintro m σ1 H1 ⟨ε1, r1, w1⟩
  refine hc T F σ1 H1 ε1 _ _ r1 (hs m ε1 w1) fun b H2 k t h2 => ?_
  cases b with
  | true =>
    refine ⟨fun σ' H' => ∃ m', m' < m ∧ ∃ ε', Rel w K T F σ' H' ε' ∧ W m' ε', fun σ' H' n => n, ?_⟩
    refine hb T F σ1 H2 ε1 _ _ (r1.go k t) h2.h ⟨fun σ4 H4 q => ?_, s.rt, fun σ4 H4 q => s.nx _ _ q, fun σ4 H4 q => ?_⟩
    · obtain ⟨ε4, r4, m', lt, w4⟩ := q
      exact ⟨m', lt, ε4, r4, w4⟩
    · obtain ⟨ε4, r4, m', lt, w4⟩ := q
      exact ⟨m', lt, ε4, r4, w4⟩
  | false => exact s.nx _ _ ⟨ε1, r1.go k t, h2.h⟩
/-! comprehensions -/
theorem Rel.wipe {T : Tp} {F : Fr} {σ : L2.St} {H : Hp} {ε : Env} (r : Rel w K T F σ H ε) : ∀ vs : List Nat, Rel w K T F (L2.wipe σ vs) H (wipeE ε vs)
  | [] => r
  | v :: vs => by
    have r1 := Rel.wipe r vs
    have nn : ∀ {i : Nat} {dv : DV}, ((wipeE ε vs).set v none)[i]? = some (some dv) → v ≠ i ∧ (wipeE ε vs)[i]? = some (some dv) := fun {i dv} e => by
      rcases get_set e with ⟨_, q, _⟩ | ⟨n, q⟩
      · cases q
      · exact ⟨n, q⟩
    show Rel w K T F ((L2.wipe σ vs).set v none) H ((wipeE ε vs).set v none)
    exact {
      keep := r1.keep
      t0 := r1.t0
      t1 := r1.t1
      tk := r1.tk
      fz := r1.fz
      val := fun i dv e => by
        obtain ⟨n, e⟩ := nn e
        rw [List.getElem?_set_ne n]; exact r1.val i dv e
      new := fun i dv a e q sg => by
        obtain ⟨n, e⟩ := nn e
        rw [List.getElem?_set_ne n] at sg; exact r1.new i dv a e q sg
      own := fun i dv a e q sg => by
        obtain ⟨n, e⟩ := nn e
        rw [List.getElem?_set_ne n] at sg; exact r1.own i dv a e q sg
      one := fun i j di dj a e1 o1 e2 o2 s1 s2 => by
        obtain ⟨n1, e1⟩ := nn e1
        obtain ⟨n2, e2⟩ := nn e2
        rw [List.getElem?_set_ne n1] at s1
        rw [List.getElem?_set_ne n2] at s2
        exact r1.one i j di dj a e1 o1 e2 o2 s1 s2
      len := by rw [List.length_set, List.length_set]; exact r1.len }
theorem de_lc {wi : TI} {mi : MI} {ss vs : List Nat} (hi : DI w K wi mi) (hg : DG w K g mg ss) (ht : DT w K tt mt) (he : DE w K te me) (sub : ∀ i ∈ ss, i ∈ vs) : DE w K (tLc wi g tt te vs) (mLc mi mg mt me vs) := by
  intro T F σ H ε Q Qm r h q
  refine hi T F σ H ε _ _ r h fun J H1 ε1 xs fzs k1 t1 r1 tk1 wk _ h1 => ?_
  obtain ⟨I, i0, hs, hd⟩ := h1.h
  intro D hD
  refine ⟨fun i m H' => m = xs.length - i ∧ i ≤ xs.length ∧ ∃ acc us, H' D = some (.lst us) ∧ DpAll K H' us acc ∧ (∀ x ∈ acc, Pd x) ∧ Keep T H1 H' ∧ TOk T H' ∧ I i acc, ⟨_, rfl, Nat.zero_le _, [], [], upd_same, .nil, (fun _ m => nomatch m), Keep.new hD, t1.new hD, i0⟩, ?_⟩
  rintro i m H' ⟨rfl, le, acc, us, hu, da, pa, k', t', hI⟩
  have r' := r1.go k' t'
  have nt := ne_tape t1 hD
  have wk' := wk i H' (k'.tk t1) (fun p hp => (r'.fz p (List.mem_append_left _ hp)).1) t'
  by_cases lt : i < xs.length
  · obtain ⟨go, yl⟩ := wk'.2 _ (List.getElem?_eq_getElem lt)
    refine .inr ⟨go, fun H2 => ∃ acc us, H2 D = some (.lst us) ∧ DpAll K H2 us acc ∧ (∀ x ∈ acc, Pd x) ∧ Keep T H1 H2 ∧ TOk T H2 ∧ I (i + 1) acc, fun H2 n => ⟨xs.length - (i + 1), by omega, rfl, lt, n⟩, fun x H2 y => ?_⟩
    obtain ⟨k2, t2, rv⟩ := yl x H2 y
    refine hg T _ _ H2 (wipeE ε1 vs) _ _ _ _ ((r'.go k2 t2).wipe vs) rv (hs i _ acc (List.getElem?_eq_getElem lt) hI) fun σ3 ε3 r3 wp h3 => ?_
    refine ⟨(wp vs sub).trans (wipe_wipe σ vs), ht T _ σ3 H2 ε3 _ _ r3 h3 fun b H3 k3 t3 h4 => ?_⟩
    have k23 := k2.trans k3
    cases b with
    | true =>
      refine he T _ σ3 H3 ε3 _ _ (r3.go k3 t3) h4.h fun dv v H4 c h5 => ?_
      split at h5
      · rename_i y
        have k24 := k23.trans c.k
        have h4D := k24 D _ nt hu
        have dk := DpAll.keep (k24.tk t') _ _ (pu_all pa) da
        refine ⟨us, h4D, by rw [da.len]; exact h5.1, acc ++ [y], us ++ [v], upd_same, ?_, ?_, ?_, ?_, h5.2⟩
        · refine (DpAll.keep (TK.put h4D) _ _ (pu_all pa) dk).snoc (Dp.keep (TK.put h4D) _ _ c.rv.2.1 c.rv.1)
        · intro x m
          rcases List.mem_append.mp m with m | m
          · exact pa x m
          · rw [List.mem_singleton.mp m]; exact c.rv.2
        · intro b u n e
          have nb : b ≠ D := by rintro rfl; rw [hD] at e; cases e
          rw [upd_ne nb]
          exact (k'.trans k24) b u n e
        · exact t1.put hD c.t
      · exact h5.elim
    | false => exact ⟨acc, us, k23 D _ nt hu, DpAll.keep (k23.tk t') _ _ (pu_all pa) da, pa, k'.trans k23, t3, h4.h⟩
  · have e : i = xs.length := by omega
    subst e
    refine .inl ⟨wk'.1 rfl, q _ _ H' ⟨k1.trans k', t', (show RV w K T H' (.ref D) (.l true true acc) from ⟨D, us, rfl, hu, da, pa, nt⟩), (fun _ a e => by cases e; exact k1.free t1 hD), fun _ => rfl⟩ (hd acc hI)⟩
theorem dt_yes : DT w K tYes mYes := fun T F σ H ε Q Qm r h q => q true H Keep.refl r.t1 h
/-! what is walked -/
theorem walk_list {T : Tp} {H1 : Hp} {a : Addr} {vs : List V} {xs : List PyData} (ha : DpAll K H1 vs xs) (p : ∀ x ∈ xs, Pd x) : Walk w K T (Itl K a) H1 [(a, .lst vs)] xs := by
  intro i H' tk fz t
  have h : SqL K H' a vs := sqL (fz _ (List.mem_singleton.mpr rfl))
  refine ⟨fun e => ⟨vs, h, by rw [e, ha.len]; exact Nat.le_refl _⟩, fun x hx => ?_⟩
  obtain ⟨v, hv, hd⟩ := ha.of hx
  refine ⟨⟨vs, v, h, hv⟩, fun u H'' y => ?_⟩
  obtain ⟨rfl, y⟩ := y
  have e := y vs h
  rw [hv] at e; cases e
  have px := p x (List.mem_of_getElem? hx)
  exact ⟨Keep.refl, t, Dp.keep tk _ _ px.1 hd, px⟩
theorem walk_tup {T : Tp} {H1 : Hp} {a : Addr} {vs : List V} {xs : List PyData} (hs : SqT K H1 a vs) (ha : DpAll K H1 vs xs) (p : ∀ x ∈ xs, Pd x) : Walk w K T (Itt K a) H1 [] xs := by
  intro i H' tk fz t
  have h : SqT K H' a vs := tk.sq hs
  refine ⟨fun e => ⟨vs, h, by rw [e, ha.len]; exact Nat.le_refl _⟩, fun x hx => ?_⟩
  obtain ⟨v, hv, hd⟩ := ha.of hx
  refine ⟨⟨vs, v, h, hv⟩, fun u H'' y => ?_⟩
  obtain ⟨rfl, y⟩ := y
  have e := y vs h
  rw [hv] at e; cases e
  have px := p x (List.mem_of_getElem? hx)
  exact ⟨Keep.refl, t, Dp.keep tk _ _ px.1 hd, px⟩
end
end Mx
namespace Tq
open PySem PySem.Spec PyProof.Rows L2
/-! ### rules: reversed(a tuple), xs[i] += e, a pair by a test, ints -/
section
variable {X : Cx} {K : PySem.W.Frag} {H : Hp} {Q : VK} {i j : Int} {σ : L2.St} {a p : Addr} {x y v : V} {xs ys : List V} {ta tb te : TE} {t : TT} {D : Ends} {tr : TA}
theorem k_revA {tg e : Expr} {p pos : Pos} (h : X.K = K) (hg : Gl X "reversed") (hm : X.mg "reversed" = none) (he : PE X e te) (hs : starEach [e] X.env = (false, eval e X.env) :: starEach [] X.env := by rfl) : PI X tg (.Call (.Name "reversed" p) [e] [] pos) (RT.iRevA K te) := h ▸ RT.pi_revA hg hm he hs
theorem l_revT {R : It → Hp → Prop} (q : te σ H fun v H1 => ∃ (a : Addr) (xs : List V), v = .ref a ∧ ((SqL K H1 a xs ∧ R (L2.Itv K a xs.length) H1) ∨ (SqT K H1 a xs ∧ R (RT.ItvT K a xs.length) H1))) : RT.iRevA K te σ H R := q
/-- an item of a list, at a place that is not negative -/
def rIxN (K : PySem.W.Frag) : V → V → Hp → VK → Prop := fun o i H Q => ∃ p xs k v, o = .ref p ∧ i = .int k ∧ SqL K H p xs ∧ 0 ≤ k ∧ k < 2 ^ 62 ∧ xs[k.toNat]? = some v ∧ Q v H
theorem gt_list (h : X.K = K) : PGet X (rIxN K) := by
  subst h
  intro pins s σ H o i ov iv Q I ro ri q
  obtain ⟨p, xs, k, z, rfl, rfl, hq, k0, k1, he, q⟩ := q
  cases ro
  obtain ⟨t, rfl⟩ := ri
  obtain ⟨its, r, pl, hz⟩ := I.list hq
  obtain ⟨w, ew, rw'⟩ := r.get he
  exact wpAny_getItem_list pl.isList k0 (by omega) (by simpa using ew) ⟨z, H, I, rw', q⟩
theorem l_augS {tget : V → V → Hp → VK → Prop} {tip : TIp} {tset : L2.TSet} (q : ta σ H fun o H1 => tb σ H1 fun i H2 => tget o i H2 fun x H3 => te σ H3 fun y H4 => tip x y H4 fun z H5 => tset o i z H5 fun H6 => D.nx σ H6) : tAugS ta tb te tget tip tset D σ H := q
theorem l_ixN (h : SqL K H p xs) (k0 : 0 ≤ i) (k1 : i < 2 ^ 62) (e : xs[i.toNat]? = some v) (q : Q v H) : rIxN K (.ref p) (.int i) H Q := ⟨p, xs, i, v, rfl, rfl, h, k0, k1, e, q⟩
theorem l_isII (q : Q (.bl true) H) : rIsi K [.int i, .ty "int"] H Q := l_isi (.base (.int i)) (by decide +kernel) q
theorem l_isIB (q : Q (.bl false) H) : rIsi K [.int i, .ty "bool"] H Q := l_isi (.base (.int i)) (by decide +kernel) q
end
end Tq
namespace Tq
/-! ### polynomials as lists of coefficients -/
def trim : List Int → List Int
  | [] => []
  | x :: r => if x = 0 ∧ trim r = [] then [] else x :: trim r
theorem trim_zero : ∀ {xs : List Int}, (∀ z ∈ xs, z = 0) → trim xs = []
  | [], _ => rfl
  | x :: r, h => by
    rw [trim, if_pos ⟨h x List.mem_cons_self, trim_zero fun z m => h z (List.mem_cons_of_mem _ m)⟩]
theorem trim_of : ∀ {xs : List Int} {m : Nat}, (∀ z ∈ xs.drop m, z = 0) → m ≤ xs.length → (∀ k, m = k + 1 → xs[k]? ≠ some 0) → trim xs = xs.take m
  | xs, 0, h, _, _ => by rw [trim_zero (by simpa using h)]; rfl
  | [], m + 1, _, l, _ => by simp at l
  | x :: r, m + 1, h, l, n => by
    have l' : m ≤ r.length := by simpa using l
    have ih := trim_of (xs := r) (m := m) h l' fun k e => by
      have := n (k + 1) (by omega)
      simpa using this
    rw [trim, ih]
    cases m with
    | zero =>
      have x0 : x ≠ 0 := by
        have := n 0 rfl
        simpa using this
      rw [if_neg (fun c => x0 c.1)]; rfl
    | succ k =>
      rw [if_neg (fun c => by
        have e := congrArg List.length c.2
        rw [List.length_take, Nat.min_eq_left l'] at e
        exact Nat.succ_ne_zero _ e)]
      rfl
theorem trim_trim : ∀ xs : List Int, trim (trim xs) = trim xs
  | [] => rfl
  | x :: r => by
    rw [trim]
    split
    · rfl
    · rename_i h
      rw [trim, trim_trim r, if_neg h]
theorem trim_sub : ∀ (xs : List Int), ∀ z ∈ trim xs, z ∈ xs
  | [], z, m => m
  | x :: r, z, m => by
    rw [trim] at m
    split at m
    · simp at m
    · rcases List.mem_cons.mp m with e | e
      · rw [e]; exact List.mem_cons_self
      · exact List.mem_cons_of_mem _ (trim_sub r z e)
theorem trim_len : ∀ (xs : List Int), (trim xs).length ≤ xs.length
  | [] => Nat.le_refl _
  | x :: r => by
    rw [trim]
    split
    · exact Nat.zero_le _
    · exact Nat.succ_le_succ (trim_len r)
/-- the sum of the sizes -/
def l1 (xs : List Int) : Nat := (xs.map Int.natAbs).sum
theorem l1_cons (x : Int) (r : List Int) : l1 (x :: r) = x.natAbs + l1 r := by simp [l1]
theorem l1_app (xs ys : List Int) : l1 (xs ++ ys) = l1 xs + l1 ys := by simp [l1]
theorem l1_mem {xs : List Int} {z : Int} (h : z ∈ xs) : z.natAbs ≤ l1 xs := by
  induction xs with
  | nil => cases h
  | cons x r ih =>
    rw [l1_cons]
    rcases List.mem_cons.mp h with e | e
    · rw [e]; omega
    · have := ih e; omega
theorem l1_trim : ∀ xs : List Int, l1 (trim xs) ≤ l1 xs
  | [] => Nat.le_refl _
  | x :: r => by
    rw [trim]
    have := l1_trim r
    split
    · exact Nat.zero_le _
    · rw [l1_cons, l1_cons]; omega
theorem l1_rep (n : Nat) : l1 (List.replicate n 0) = 0 := by
  induction n with
  | zero => rfl
  | succ n ih => rw [List.replicate_succ, l1_cons, ih]; rfl
theorem l1_set : ∀ (xs : List Int) (k : Nat) (d : Int), l1 (xs.set k (xs.getD k 0 + d)) ≤ l1 xs + d.natAbs
  | [], k, d => by simp [l1]
  | x :: r, 0, d => by
    rw [List.set_cons_zero, l1_cons, l1_cons]
    have : ((x :: r).getD 0 0) = x := rfl
    rw [this]; omega
  | x :: r, k + 1, d => by
    rw [List.set_cons_succ, l1_cons, l1_cons]
    have : ((x :: r).getD (k + 1) 0) = r.getD k 0 := rfl
    rw [this]
    have := l1_set r k d
    omega
/-- the sum, coefficient by coefficient -/
def sumL (a b : List Int) (n : Nat) : List Int := (List.range n).map fun k => a.getD k 0 + b.getD k 0
def addL (a b : List Int) : List Int := trim (sumL a b (max a.length b.length))
theorem sumL_comm (a b : List Int) (n : Nat) : sumL a b n = sumL b a n := by
  unfold sumL
  exact List.map_congr_left fun k _ => Int.add_comm ..
theorem sumL_len (a b : List Int) (n : Nat) : (sumL a b n).length = n := by simp [sumL]
theorem sumL_succ (a b : List Int) (n : Nat) : sumL a b (n + 1) = sumL a b n ++ [a.getD n 0 + b.getD n 0] := by simp [sumL, List.range_succ]
theorem getD_some {xs : List Int} {k : Nat} {z : Int} (h : xs[k]? = some z) : xs.getD k 0 = z := by rw [List.getD_eq_getElem?_getD, h]; rfl
theorem getD_none {xs : List Int} {k : Nat} (h : xs.length ≤ k) : xs.getD k 0 = 0 := by rw [List.getD_eq_getElem?_getD, List.getElem?_eq_none h]; rfl
/-- the longer one with the first coefficients of the shorter one added -/
def sumP (l s : List Int) (i : Nat) : List Int := (List.range l.length).map fun k => l.getD k 0 + if k < i then s.getD k 0 else 0
theorem sumP_zero (l s : List Int) : sumP l s 0 = l := by
  refine List.ext_getElem? fun k => ?_
  unfold sumP
  rw [List.getElem?_map]
  by_cases h : k < l.length
  · rw [List.getElem?_range h, List.getElem?_eq_getElem h, Option.map_some, if_neg (Nat.not_lt_zero _), List.getD_eq_getElem?_getD, List.getElem?_eq_getElem h]; simp
  · rw [List.getElem?_eq_none (by simpa using h), List.getElem?_eq_none (by omega)]; rfl
theorem sumP_len (l s : List Int) (i : Nat) : (sumP l s i).length = l.length := by simp [sumP]
theorem sumP_get {l s : List Int} {i k : Nat} (h : k < l.length) : (sumP l s i)[k]? = some (l.getD k 0 + if k < i then s.getD k 0 else 0) := by
  unfold sumP
  rw [List.getElem?_map, List.getElem?_range h]; rfl
theorem sumP_succ {l s : List Int} {i : Nat} (h : i < l.length) : (sumP l s i).set i (l.getD i 0 + s.getD i 0) = sumP l s (i + 1) := by
  refine List.ext_getElem? fun k => ?_
  rw [List.getElem?_set]
  by_cases hk : k < l.length
  · rw [sumP_get (i := i + 1) hk]
    by_cases e : i = k
    · subst e
      rw [if_pos rfl, if_pos (by rw [sumP_len]; exact hk), if_pos (Nat.lt_succ_self _)]
    · rw [if_neg e, sumP_get (i := i) hk]
      by_cases c : k < i
      · rw [if_pos c, if_pos (by omega)]
      · rw [if_neg c, if_neg (by omega)]
  · rw [List.getElem?_eq_none (by rw [sumP_len]; omega), if_neg (by omega), List.getElem?_eq_none (by rw [sumP_len]; omega)]
theorem sumP_all {l s : List Int} (h : s.length ≤ l.length) : sumP l s s.length = sumL l s l.length := by
  unfold sumP sumL
  refine List.map_congr_left fun k _ => ?_
  by_cases c : k < s.length
  · rw [if_pos c]
  · rw [if_neg c, getD_none (xs := s) (by omega)]
/-- the product: one place after another -/
def inn (c : List Int) (i : Nat) (x : Int) (ys : List Int) : Nat → List Int
  | 0 => c
  | j + 1 => (inn c i x ys j).set (i + j) ((inn c i x ys j).getD (i + j) 0 + x * ys.getD j 0)
def out (xs ys : List Int) : Nat → List Int
  | 0 => List.replicate (xs.length + ys.length) 0
  | i + 1 => inn (out xs ys i) i (xs.getD i 0) ys ys.length
def mulL (xs ys : List Int) : List Int := trim (out xs ys xs.length)
theorem inn_len (c : List Int) (i : Nat) (x : Int) (ys : List Int) (j : Nat) : (inn c i x ys j).length = c.length := by
  induction j with
  | zero => rfl
  | succ j ih => rw [inn, List.length_set, ih]
theorem out_len (xs ys : List Int) (i : Nat) : (out xs ys i).length = xs.length + ys.length := by
  induction i with
  | zero => exact List.length_replicate
  | succ i ih => rw [out, inn_len, ih]
theorem inn_l1 (c : List Int) (i : Nat) (x : Int) (ys : List Int) (j : Nat) (hj : j ≤ ys.length) : l1 (inn c i x ys j) ≤ l1 c + x.natAbs * l1 (ys.take j) := by
  induction j with
  | zero => exact Nat.le_add_right _ _
  | succ j ih =>
    have h := l1_set (inn c i x ys j) (i + j) (x * ys.getD j 0)
    have ih := ih (by omega)
    have e : ys.take (j + 1) = ys.take j ++ [ys.getD j 0] := by
      rw [List.take_succ, List.getElem?_eq_getElem (by omega), List.getD_eq_getElem?_getD, List.getElem?_eq_getElem (by omega)]; rfl
    rw [inn, e, l1_app, Nat.mul_add]
    rw [Int.natAbs_mul] at h
    have e2 : l1 [ys.getD j 0] = (ys.getD j 0).natAbs := by simp [l1]
    rw [e2]; omega
theorem out_l1 (xs ys : List Int) (i : Nat) (hi : i ≤ xs.length) : l1 (out xs ys i) ≤ l1 (xs.take i) * l1 ys := by
  induction i with
  | zero => rw [out, l1_rep]; exact Nat.zero_le _
  | succ i ih =>
    have h := inn_l1 (out xs ys i) i (xs.getD i 0) ys ys.length (Nat.le_refl _)
    have ih := ih (by omega)
    have e : xs.take (i + 1) = xs.take i ++ [xs.getD i 0] := by
      rw [List.take_succ, List.getElem?_eq_getElem (by omega), List.getD_eq_getElem?_getD, List.getElem?_eq_getElem (by omega)]; rfl
    rw [List.take_length] at h
    rw [out, e, l1_app, Nat.add_mul]
    have e2 : l1 [xs.getD i 0] = (xs.getD i 0).natAbs := by simp [l1]
    rw [e2]; omega
theorem mul_l1 (xs ys : List Int) : l1 (mulL xs ys) ≤ l1 xs * l1 ys := by
  have h := out_l1 xs ys xs.length (Nat.le_refl _)
  rw [List.take_length] at h
  exact Nat.le_trans (l1_trim _) h
theorem mul_len (xs ys : List Int) : (mulL xs ys).length ≤ xs.length + ys.length := by
  have := trim_len (out xs ys xs.length)
  rw [out_len] at this
  exact this
theorem add_len (xs ys : List Int) : (addL xs ys).length ≤ max xs.length ys.length := by
  have := trim_len (sumL xs ys (max xs.length ys.length))
  rw [sumL_len] at this
  exact this
/-- the value -/
def valL (xs : List Int) (n : Int) : Int := xs.foldr (fun c v => v * n + c) 0
/-- (n - s) (n - s - 1) .. -/
def falL (s : Int) : Nat → List Int
  | 0 => [1]
  | k + 1 => mulL (falL s k) [-s - (k : Int), 1]
theorem fal_len (s : Int) (k : Nat) : (falL s k).length ≤ 1 + 2 * k := by
  induction k with
  | zero => exact Nat.le_refl _
  | succ k ih =>
    have := mul_len (falL s k) [-s - (k : Int), 1]
    rw [falL]
    simp at this
    omega
end Tq
namespace Mx
open PySem PySem.Spec PyProof.Rows L2 Tq
variable [Tb]
section
variable {w : World} {K : PySem.W.Frag} {te ta tb : TE} {me ma mb : ME} {tt tu : TT} {mt mu : MT} {tr tk : TA} {mr mk : MA}
theorem frz {T : Tp} {F : Fr} {σ : L2.St} {H : Hp} {ε : Env} {a : Addr} {vs : List V} (r : Rel w K T F σ H ε) (h : H a = some (.lst vs)) (n : ∀ p ∈ T, a ≠ p.1) (no : ∀ (i : Nat) (dv : DV), ε[i]? = some (some dv) → dv.own = true → σ[i]? ≠ some (some (.ref a))) :
    Rel w K T ⟨F.H0, H, [(a, .lst vs)] ++ F.fz⟩ σ H ε where
  keep := r.keep
  t0 := r.t0
  t1 := r.t1
  tk := TK.refl
  fz p hp := by
    rcases List.mem_append.mp hp with hp | hp
    · rw [List.mem_singleton.mp hp]; exact ⟨h, n⟩
    · exact r.fz p hp
  val := r.val
  new := r.new
  own i dv b e o s := ⟨(r.own i dv b e o s).1, fun p hp => by
    rcases List.mem_append.mp hp with hp | hp
    · rw [List.mem_singleton.mp hp]
      rintro rfl
      exact no i dv e o s
    · exact (r.own i dv b e o s).2 p hp⟩
  one := r.one
  len := r.len
theorem frz0 {T : Tp} {F : Fr} {σ : L2.St} {H : Hp} {ε : Env} (r : Rel w K T F σ H ε) : Rel w K T ⟨F.H0, H, [] ++ F.fz⟩ σ H ε where
  keep := r.keep
  t0 := r.t0
  t1 := r.t1
  tk := TK.refl
  fz := r.fz
  val := r.val
  new := r.new
  own := r.own
  one := r.one
  len := r.len
/-- a slot's list, frozen -/
theorem frzV {T : Tp} {F : Fr} {σ : L2.St} {H : Hp} {ε : Env} {i : Nat} {o n : Bool} {xs : List PyData} (r : Rel w K T F σ H ε) (e : ε[i]? = some (some (.l o n xs))) :
    ∃ a vs, σ[i]? = some (some (.ref a)) ∧ H a = some (.lst vs) ∧ DpAll K H vs xs ∧ (∀ x ∈ xs, Pd x) ∧ Rel w K T ⟨F.H0, H, [(a, .lst vs)] ++ F.fz⟩ σ H (ε.set i (some (.l false n xs))) := by
  obtain ⟨a, vs, h1, h2, h3, h4, h5⟩ := r.at e
  refine ⟨a, vs, h1, h2, h3, h4, frz (r.freeze e) h2 h5 fun j dv ej oj sj => ?_⟩
  rcases get_set ej with ⟨rfl, q, _⟩ | ⟨ne, q⟩
  · cases q; cases oj
  · exact ne (r.one j i dv _ a q oj e rfl sj h1).symm
theorem di_varL {i : Nat} : DI w K (iList K (tVar i)) (miVarL i) := by
  intro T F σ H ε R Rm r h q
  unfold miVarL at h
  split at h
  · rename_i o n xs e
    obtain ⟨a, vs, h1, h2, h3, h4, r2⟩ := frzV r e
    exact ⟨_, h1, a, rfl, ⟨vs, sqL h2⟩, q _ H _ xs _ Keep.refl r.t1 r2 r.tk (walk_list h3 h4) (fun p hp => .inr ⟨i, _, e, rfl, by rw [List.mem_singleton.mp hp]; exact h1⟩) h⟩
  · exact h.elim
theorem di_varT {i : Nat} : DI w K (iTup K (tVar i)) (miVarT i) := by
  intro T F σ H ε R Rm r h q
  unfold miVarT at h
  split at h
  · rename_i xs e
    obtain ⟨v, h1, h2⟩ := r.val _ _ e
    obtain ⟨a, vs, rfl, hs, ha⟩ := dp_tup h2.1
    exact ⟨_, h1, a, rfl, ⟨vs, hs⟩, q _ H ε xs [] Keep.refl r.t1 (frz0 r) r.tk (walk_tup hs ha (pd_in h2.2)) (fun _ m => nomatch m) h⟩
  · exact h.elim
theorem di_eT (he : DE w K te me) : DI w K (iTup K te) (miET me) := by
  intro T F σ H ε R Rm r h q
  refine he T F σ H ε _ _ r h fun dv v H1 c h1 => ?_
  split at h1
  · rename_i xs
    obtain ⟨a, vs, rfl, hs, ha⟩ := dp_tup c.rv.1
    have r1 := c.rel r
    exact ⟨a, rfl, ⟨vs, hs⟩, q _ H1 ε xs [] c.k c.t (frz0 r1) r1.tk (walk_tup hs ha (pd_in c.rv.2)) (fun _ m => nomatch m) h1⟩
  · exact h1.elim
theorem di_eL (he : DE w K te me) : DI w K (iList K te) (miEL me) := by
  intro T F σ H ε R Rm r h q
  refine he T F σ H ε _ _ r h fun dv v H1 c h1 => ?_
  split at h1
  · rename_i o xs
    obtain ⟨a, vs, rfl, h2, h3, h4, h5⟩ := c.rv
    have r1 := c.rel r
    refine ⟨a, rfl, ⟨vs, sqL h2⟩, q _ H1 ε xs _ c.k c.t (frz r1 h2 h5 fun i dv e ow s => ?_) r1.tk (walk_list h3 h4) (fun p hp => .inl (by rw [List.mem_singleton.mp hp]; exact c.n rfl a rfl)) h1⟩
    obtain ⟨v, x1, x2⟩ := r.val i dv e
    obtain ⟨b, u, eb, hb⟩ := x2.obj_at (own_obj ow)
    rw [s] at x1; cases x1; cases eb
    rw [c.n rfl a rfl] at hb; cases hb
  · exact h1.elim
theorem rng_get {lo : Int} {n i : Nat} {x : PyData} (h : (rngD lo n)[i]? = some x) : i < n ∧ x = .int (lo + i) := by
  unfold rngD at h
  rw [List.getElem?_map] at h
  by_cases l : i < n
  · rw [List.getElem?_range l] at h
    exact ⟨l, (Option.some.inj h).symm⟩
  · rw [List.getElem?_eq_none (by simp; omega)] at h; cases h
theorem rng_len (lo : Int) (n : Nat) : (rngD lo n).length = n := by unfold rngD; simp
theorem walk_rng {T : Tp} {H1 : Hp} (lo : Int) (n : Nat) : Walk w K T (Itr lo n) H1 [] (rngD lo n) := by
  intro i H' tk fz t
  refine ⟨fun e => by rw [rng_len] at e; exact Nat.le_of_eq e.symm, fun x hx => ?_⟩
  obtain ⟨l, rfl⟩ := rng_get hx
  refine ⟨l, fun v H'' y => ?_⟩
  obtain ⟨rfl, rfl⟩ := y
  exact ⟨Keep.refl, t, .int _, pd_int _⟩
theorem p1 {R : V → DV → Prop} {vs : List V} {a : DV} (p : Paired R vs [a]) : ∃ v, vs = [v] ∧ R v a := by
  cases p with
  | cons h p => cases p; exact ⟨_, rfl, h⟩
theorem p2 {R : V → DV → Prop} {vs : List V} {a b : DV} (p : Paired R vs [a, b]) : ∃ v u, vs = [v, u] ∧ R v a ∧ R u b := by
  cases p with
  | cons h p => cases p with
    | cons g p => cases p; exact ⟨_, _, rfl, h, g⟩
theorem di_rng1 (ha : DA w K tr mr) : DI w K (iRng1 tr) (miRng1 mr) := by
  intro T F σ H ε R Rm r h q
  refine ha T F σ H ε _ _ r h fun dvs vs H1 k t p h1 => ?_
  split at h1
  · rename_i j
    obtain ⟨v, rfl, h2⟩ := p1 p
    have r1 := r.go k t
    rw [dp_int h2.1.1]
    exact ⟨j, rfl, h1.1, h1.2.1, q _ H1 ε _ [] k t (frz0 r1) r1.tk (walk_rng 0 _) (fun _ m => nomatch m) h1.2.2⟩
  · exact h1.elim
theorem di_rng2 (ha : DA w K tr mr) : DI w K (iRng2 tr) (miRng2 mr) := by
  intro T F σ H ε R Rm r h q
  refine ha T F σ H ε _ _ r h fun dvs vs H1 k t p h1 => ?_
  split at h1
  · rename_i i j
    obtain ⟨v, u, rfl, h2, h3⟩ := p2 p
    have r1 := r.go k t
    rw [dp_int h2.1.1, dp_int h3.1.1]
    exact ⟨i, j, rfl, h1.1, q _ H1 ε _ [] k t (frz0 r1) r1.tk (walk_rng i _) (fun _ m => nomatch m) h1.2⟩
  · exact h1.elim
theorem di_enT (ha : DA w K tr mr) : DI w K (iEnT K tr) (miEnT mr) := by
  intro T F σ H ε R Rm r h q
  refine ha T F σ H ε _ _ r h fun dvs vs H1 k t p h1 => ?_
  split at h1
  · rename_i xs
    obtain ⟨v, rfl, h2⟩ := p1 p
    obtain ⟨a, us, rfl, hs, ha⟩ := dp_tup h2.1.1
    have px := pd_in h2.1.2
    have r1 := r.go k t
    refine ⟨a, us, rfl, hs, q _ H1 ε _ [] k t (frz0 r1) r1.tk ?_ (fun _ m => nomatch m) h1⟩
    intro i H' tk fz t'
    have h' := tk.sq hs
    refine ⟨fun e => ⟨us, h', by rw [e, ha.len]; unfold enD; simp⟩, fun x hx => ?_⟩
    unfold enD at hx
    rw [List.getElem?_mapIdx] at hx
    obtain ⟨y, hy, rfl⟩ := Option.map_eq_some_iff.mp hx
    obtain ⟨z, hz, dz⟩ := ha.of hy
    refine ⟨⟨us, z, h', hz⟩, fun v H'' yy => ?_⟩
    obtain ⟨T', x', rfl, n, rfl, q'⟩ := yy
    have e := q' us h'
    rw [hz] at e; cases e
    have py := px y (List.mem_of_getElem? hy)
    refine ⟨Keep.new n, t'.new n, .tup (sqT upd_same) (.cons (.int _) (.cons (Dp.keep (tk.trans (TK.of_same (new_same n))) _ _ py.1 dz) .nil)), pd_tup fun d m => ?_⟩
    rcases List.mem_cons.mp m with rfl | m
    · exact pd_int _
    · rw [List.mem_singleton.mp m]; exact py
  · exact h1.elim
theorem di_zip (ha : DA w K tr mr) : DI w K (RZ.iZipA K tr) (miZip mr) := by
  intro T F σ H ε R Rm r h q
  refine ha T F σ H ε _ _ r h fun dvs vs H1 k t p h1 => ?_
  split at h1
  · rename_i xs ys
    obtain ⟨v, u, rfl, h2, h3⟩ := p2 p
    obtain ⟨a, us, rfl, hs, ha⟩ := dp_tup h2.1.1
    obtain ⟨b, ws, rfl, hs2, ha2⟩ := dp_tup h3.1.1
    have px := pd_in h2.1.2
    have py := pd_in h3.1.2
    have r1 := r.go k t
    refine ⟨a, b, us, ws, rfl, .inr ⟨hs, hs2, q _ H1 ε _ [] k t (frz0 r1) r1.tk ?_ (fun _ m => nomatch m) h1⟩⟩
    intro i H' tk fz t'
    have h' := tk.sq hs
    have h2' := tk.sq hs2
    refine ⟨fun e => ⟨us, ws, h', h2', by rw [e, ha.len, ha2.len, List.length_map, List.length_zip]; omega⟩, fun x hx => ?_⟩
    rw [List.getElem?_map] at hx
    obtain ⟨⟨y1, y2⟩, hy, rfl⟩ := Option.map_eq_some_iff.mp hx
    obtain ⟨hy1, hy2⟩ := List.getElem?_zip_eq_some.mp hy
    obtain ⟨z1, hz1, dz1⟩ := ha.of hy1
    obtain ⟨z2, hz2, dz2⟩ := ha2.of hy2
    refine ⟨⟨us, ws, z1, z2, h', h2', hz1, hz2⟩, fun v H'' yy => ?_⟩
    obtain ⟨T', x1, x2, rfl, n, rfl, q1, q2⟩ := yy
    have e1 := q1 us h'
    have e2 := q2 ws h2'
    rw [hz1] at e1; cases e1
    rw [hz2] at e2; cases e2
    have p1 := px y1 (List.mem_of_getElem? hy1)
    have p2 := py y2 (List.mem_of_getElem? hy2)
    have tk2 := tk.trans (TK.of_same (new_same (o := .tup [z1, z2]) n))
    refine ⟨Keep.new n, t'.new n, .tup (sqT upd_same) (.cons (Dp.keep tk2 _ _ p1.1 dz1) (.cons (Dp.keep tk2 _ _ p2.1 dz2) .nil)), pd_tup fun d m => ?_⟩
    rcases List.mem_cons.mp m with rfl | m
    · exact p1
    · rw [List.mem_singleton.mp m]; exact p2
  · exact h1.elim
theorem rev_get {α : Type} {xs : List α} {i : Nat} {x : α} (h : xs.reverse[i]? = some x) : i < xs.length ∧ xs[xs.length - 1 - i]? = some x := by
  have l : i < xs.length := by
    have := (List.getElem?_eq_some_iff.mp h).1
    simpa using this
  rw [List.getElem?_reverse l] at h
  exact ⟨l, h⟩
theorem di_rev (he : DE w K te me) : DI w K (RT.iRevA K te) (miRev me) := by
  intro T F σ H ε R Rm r h q
  refine he T F σ H ε _ _ r h fun dv v H1 c h1 => ?_
  split at h1
  · rename_i xs
    obtain ⟨a, vs, rfl, hs, ha⟩ := dp_tup c.rv.1
    have px := pd_in c.rv.2
    have r1 := c.rel r
    refine ⟨a, vs, rfl, .inr ⟨hs, q _ H1 ε _ [] c.k c.t (frz0 r1) r1.tk ?_ (fun _ m => nomatch m) h1⟩⟩
    intro i H' tk fz t
    have h := tk.sq hs
    refine ⟨fun e => by rw [e, ha.len, List.length_reverse]; exact Nat.le_refl _, fun x hx => ?_⟩
    obtain ⟨l, hx⟩ := rev_get hx
    obtain ⟨z, hz, dz⟩ := ha.of hx
    rw [← ha.len] at hz l
    refine ⟨⟨l, vs, z, h, hz⟩, fun v H'' y => ?_⟩
    obtain ⟨rfl, y⟩ := y
    have e := y vs h
    rw [hz] at e; cases e
    have p := px x (List.mem_of_getElem? hx)
    exact ⟨Keep.refl, t, Dp.keep tk _ _ p.1 dz, p⟩
  · exact h1.elim
theorem di_revV {i : Nat} : DI w K (RT.iRevA K (tVar i)) (miRevV i) := by
  intro T F σ H ε R Rm r h q
  unfold miRevV at h
  split at h
  · rename_i o n xs e
    obtain ⟨a, vs, h1, h2, h3, h4, r2⟩ := frzV r e
    refine ⟨_, h1, a, vs, rfl, .inl ⟨sqL h2, q _ H _ _ _ Keep.refl r.t1 r2 r.tk ?_ (fun p hp => .inr ⟨i, _, e, rfl, by rw [List.mem_singleton.mp hp]; exact h1⟩) h⟩⟩
    intro i H' tk fz t
    have hs : SqL K H' a vs := sqL (fz _ (List.mem_singleton.mpr rfl))
    refine ⟨fun e => by rw [e, h3.len, List.length_reverse]; exact Nat.le_refl _, fun x hx => ?_⟩
    obtain ⟨l, hx⟩ := rev_get hx
    obtain ⟨z, hz, dz⟩ := h3.of hx
    rw [← h3.len] at hz l
    refine ⟨⟨l, vs, z, hs, hz⟩, fun v H'' y => ?_⟩
    obtain ⟨rfl, y⟩ := y
    have e := y vs hs
    rw [hz] at e; cases e
    have p := h4 x (List.mem_of_getElem? hx)
    exact ⟨Keep.refl, t, Dp.keep tk _ _ p.1 dz, p⟩
  · exact h.elim
theorem di_str {te : TE} (he : DE w K te me) : DI w K (iStr te) (miS me) := by
  intro T F σ H ε R Rm r h q
  refine he T F σ H ε _ _ r h fun dv v H1 c h1 => ?_
  split at h1
  · rename_i z
    have r1 := c.rel r
    refine ⟨z, dp_str c.rv.1, q _ H1 ε _ [] c.k c.t (frz0 r1) r1.tk ?_ (fun _ m => nomatch m) h1⟩
    intro i H' tk fz t
    refine ⟨fun e => by rw [e]; simp [Its], fun x hx => ?_⟩
    rw [List.getElem?_map] at hx
    obtain ⟨y, hy, rfl⟩ := Option.map_eq_some_iff.mp hx
    have hy2 : z.cps[i]? = some y := by rw [← hy]; simp
    refine ⟨(Array.getElem?_eq_some_iff.mp hy2).1, fun v H'' yy => ?_⟩
    obtain ⟨rfl, c', e, rfl⟩ := yy
    rw [hy2] at e; cases e
    refine ⟨Keep.refl, t, .str _, pd_str ?_⟩
    have ok : PyData.strOk z = true := c.rv.2.2
    unfold PyData.strOk at ok ⊢
    have := (Array.all_eq_true_iff_forall_mem.mp ok) y (Array.mem_of_getElem? hy2)
    simpa using this
  · exact h1.elim
/-! ### operators -/
theorem pl {T : Tp} {H : Hp} {v : V} {x : PyData} (t : TOk T H) (h : Dp K H v x) (p : Pd x) : Came w K T H H v (.d x) := .here t ⟨h, p⟩
theorem dr_I {rr : R2} {f : Int → Int → PyData} {g : Int → Int → V} (e : rr = rI0 g) (hg : ∀ K H i j, Dp K H (g i j) (f i j)) (pf : ∀ i j, Pd (f i j)) : DR w K rr (mI f) := by
  subst e
  intro T H x y dx dy Q Qm t hx hy h q
  unfold mI at h
  split at h
  · exact ⟨_, _, dp_int hx.1, dp_int hy.1, q _ _ H (pl t (hg _ _ _ _) (pf _ _)) h⟩
  · exact h.elim
theorem dr_IC {rr : R2} {C : Int → Int → Prop} {f : Int → Int → PyData} {g : Int → Int → V} (e : rr = rI C g) (hg : ∀ K H i j, Dp K H (g i j) (f i j)) (pf : ∀ i j, Pd (f i j)) : DR w K rr (mIC C f) := by
  subst e
  intro T H x y dx dy Q Qm t hx hy h q
  unfold mIC at h
  split at h
  · exact ⟨_, _, dp_int hx.1, dp_int hy.1, h.1, q _ _ H (pl t (hg _ _ _ _) (pf _ _)) h.2⟩
  · exact h.elim
abbrev mAdd := mI fun i j => .int (i + j)
abbrev mSub := mI fun i j => .int (i - j)
abbrev mMul := mIC CMul fun i j => .int (i * j)
abbrev mMod := mIC (fun _ j => j ≠ 0) fun i j => .int (i.fmod j)
abbrev mDiv := mIC CDiv64 fun i j => .int (i.fdiv j)
abbrev mPow := mIC CPow fun i j => .int (i ^ j.toNat)
abbrev mLt := mI fun i j => .bool (decide (i < j))
abbrev mLe := mI fun i j => .bool (decide (i ≤ j))
abbrev mGt := mI fun i j => .bool (decide (j < i))
abbrev mGe := mI fun i j => .bool (decide (j ≤ i))
theorem dr_add : DR w K rAddI mAdd := dr_I rfl (fun _ _ _ _ => .int _) fun _ _ => pd_int _
theorem dr_sub : DR w K rSubI mSub := dr_I rfl (fun _ _ _ _ => .int _) fun _ _ => pd_int _
theorem dr_mul : DR w K rMulI mMul := dr_IC rfl (fun _ _ _ _ => .int _) fun _ _ => pd_int _
theorem dr_mod : DR w K rModI mMod := dr_IC rfl (fun _ _ _ _ => .int _) fun _ _ => pd_int _
theorem dr_div : DR w K rDivI mDiv := dr_IC rfl (fun _ _ _ _ => .int _) fun _ _ => pd_int _
theorem dr_pow : DR w K rPowI mPow := dr_IC rfl (fun _ _ _ _ => .int _) fun _ _ => pd_int _
theorem dr_lt : DR w K rLtI mLt := dr_I rfl (fun _ _ _ _ => .bl _) fun _ _ => pd_bool _
theorem dr_le : DR w K rLeI mLe := dr_I rfl (fun _ _ _ _ => .bl _) fun _ _ => pd_bool _
theorem dr_gt : DR w K rGtI mGt := dr_I rfl (fun _ _ _ _ => .bl _) fun _ _ => pd_bool _
theorem dr_ge : DR w K rGeI mGe := dr_I rfl (fun _ _ _ _ => .bl _) fun _ _ => pd_bool _
theorem strOk_app {a b : Str} (h : PyData.strOk a = true) (g : PyData.strOk b = true) : PyData.strOk (a ++ b) = true := by
  unfold PyData.strOk at *
  have e : (a ++ b).cps = a.cps ++ b.cps := rfl
  rw [e, Array.all_append, h, g]; rfl
theorem dr_addS : DR w K rAddS' (mSS (fun i j => i.length + j.length ≤ sizeLine) fun i j => .str (i ++ j)) := by
  intro T H x y dx dy Q Qm t hx hy h q
  unfold mSS at h
  split at h
  · exact ⟨_, _, dp_str hx.1, dp_str hy.1, h.1, q _ _ H (pl t (.str _) (pd_str (strOk_app hx.2.2 hy.2.2))) h.2⟩
  · exact h.elim
theorem dr_ltS : DR w K rLtS (mSS (fun _ _ => True) fun i j => .bool (decide (i.cps.toList < j.cps.toList))) := by
  intro T H x y dx dy Q Qm t hx hy h q
  unfold mSS at h
  split at h
  · exact ⟨_, _, dp_str hx.1, dp_str hy.1, q _ _ H (pl t (.bl _) (pd_bool _)) h.2⟩
  · exact h.elim
theorem dr_leS : DR w K rLeS (mSS (fun _ _ => True) fun i j => .bool (!decide (j.cps.toList < i.cps.toList))) := by
  intro T H x y dx dy Q Qm t hx hy h q
  unfold mSS at h
  split at h
  · exact ⟨_, _, dp_str hx.1, dp_str hy.1, q _ _ H (pl t (.bl _) (pd_bool _)) h.2⟩
  · exact h.elim
theorem eqS_V {H : Hp} {x y : V} {a b : PyData} {k : Bool} (hx : Dp K H x a) (hy : Dp K H y b) (e : eqS a b = some k) : scal x y = true ∧ decide (x = y) = k := by
  cases hx <;> cases hy <;> simp [eqS] at e <;> (subst e; simp [scal])
theorem dr_eqS : DR w K rEq (mEqS false) := by
  intro T H x y dx dy Q Qm t hx hy h q
  have h : mEqS0 dx dy fun k => Qm (.d (.bool k)) := h
  unfold mEqS0 at h
  split at h
  · split at h
    · rename_i k e
      obtain ⟨a, b⟩ := eqS_V hx.1 hy.1 e
      exact ⟨a, by rw [b]; exact q _ _ H (pl t (.bl _) (pd_bool _)) h⟩
    · exact h.elim
  · exact h.elim
theorem dr_neS : DR w K rNe (mEqS true) := by
  intro T H x y dx dy Q Qm t hx hy h q
  have h : mEqS0 dx dy fun k => Qm (.d (.bool (!k))) := h
  unfold mEqS0 at h
  split at h
  · split at h
    · rename_i k e
      obtain ⟨a, b⟩ := eqS_V hx.1 hy.1 e
      exact ⟨a, by rw [b]; exact q _ _ H (pl t (.bl _) (pd_bool _)) h⟩
    · exact h.elim
  · exact h.elim
theorem dat_of {T : Tp} {H : Hp} {v : V} {dv : DV} {a : PyData} (h : RV w K T H v dv) (e : dv.dat = some a) : Dp K H v a ∧ a.canLay0 = true := by
  unfold DV.dat at e
  split at e
  · cases e; exact ⟨h.1, h.2.2⟩
  · cases e
    obtain ⟨p, vs, rfl, h1, h2, h3, _⟩ := h
    exact ⟨.lst (sqL h1) h2, canAll fun d m => (h3 d m).2⟩
  · cases e
theorem shaped_of {d : PyData} (h : d.canLay0 = true) (l : d.depth ≤ 64) : SeqAt.shaped d = true := by
  unfold SeqAt.shaped; rw [h, decide_eq_true l]; rfl
theorem dr_eqD : DR w K (rEqD K) (mEqD false) := by
  intro T H x y dx dy Q Qm t hx hy h q
  have h : mEqD0 dx dy fun k => Qm (.d (.bool k)) := h
  unfold mEqD0 at h
  split at h
  · rename_i a b ea eb
    obtain ⟨d1, c1⟩ := dat_of hx ea
    obtain ⟨d2, c2⟩ := dat_of hy eb
    exact ⟨a, b, d1, d2, shaped_of c1 h.1, shaped_of c2 h.2.1, q _ _ H (pl t (.bl _) (pd_bool _)) h.2.2⟩
  · exact h.elim
theorem dr_neD : DR w K (rNeD K) (mEqD true) := by
  intro T H x y dx dy Q Qm t hx hy h q
  have h : mEqD0 dx dy fun k => Qm (.d (.bool (!k))) := h
  unfold mEqD0 at h
  split at h
  · rename_i a b ea eb
    obtain ⟨d1, c1⟩ := dat_of hx ea
    obtain ⟨d2, c2⟩ := dat_of hy eb
    exact ⟨a, b, d1, d2, shaped_of c1 h.1, shaped_of c2 h.2.1, q _ _ H (pl t (.bl _) (pd_bool _)) h.2.2⟩
  · exact h.elim
theorem isN_V {H : Hp} {x : V} {a : PyData} (h : Dp K H x a) : decide (x = .non) = isNoneD a := by
  cases h <;> simp [isNoneD]
theorem dr_isN : DR w K rIsN' (mIsN false) := by
  intro T H x y dx dy Q Qm t hx hy h q
  have h : mIsN0 dx dy fun k => Qm (.d (.bool k)) := h
  unfold mIsN0 at h
  split at h
  · exact ⟨dp_none hy.1, by rw [isN_V hx.1]; exact q _ _ H (pl t (.bl _) (pd_bool _)) h⟩
  · obtain ⟨a, o, ws, rfl, _⟩ := hx
    exact ⟨dp_none hy.1, by rw [show decide (V.ref a = .non) = false from decide_eq_false (fun z => nomatch z)]; exact q _ _ H (pl t (.bl _) (pd_bool _)) h⟩
  · exact h.elim
theorem dr_notN : DR w K rNotN' (mIsN true) := by
  intro T H x y dx dy Q Qm t hx hy h q
  have h : mIsN0 dx dy fun k => Qm (.d (.bool (!k))) := h
  unfold mIsN0 at h
  split at h
  · exact ⟨dp_none hy.1, by rw [isN_V hx.1]; exact q _ _ H (pl t (.bl _) (pd_bool _)) h⟩
  · obtain ⟨a, o, ws, rfl, _⟩ := hx
    exact ⟨dp_none hy.1, by rw [show decide (V.ref a = .non) = false from decide_eq_false (fun z => nomatch z)]; exact q _ _ H (pl t (.bl _) (pd_bool _)) h⟩
  · exact h.elim
theorem flat_V {H : Hp} {x : V} {a : PyData} (h : Dp K H x a) (f : flatD a = true) : flatV x = true := by cases h <;> first | rfl | cases f
theorem eq_V {H : Hp} {x y : V} {a b : PyData} (h : Dp K H x a) (g : Dp K H y b) (f : flatD a = true) (f2 : flatD b = true) : eqV x y = PyData.eqv a b := by
  cases h <;> first | (cases f; done) | (cases g <;> first | (cases f2; done) | (unfold PyData.eqv; rfl))
theorem flat_all {H : Hp} : ∀ {vs : List V} {xs : List PyData}, DpAll K H vs xs → xs.all flatD = true → vs.all flatV = true
  | _, _, .nil, _ => rfl
  | _, _, .cons a b, f => by
    rw [List.all_cons, Bool.and_eq_true] at f ⊢
    exact ⟨flat_V a f.1, flat_all b f.2⟩
theorem in_V {H : Hp} {x : V} {a : PyData} (h : Dp K H x a) (f : flatD a = true) : ∀ {vs : List V} {xs : List PyData}, DpAll K H vs xs → xs.all flatD = true → inV x vs = inD a xs
  | _, _, .nil, _ => rfl
  | _, _, .cons c d, g => by
    rw [List.all_cons, Bool.and_eq_true] at g
    have := in_V h f d g.2
    unfold inV inD at *
    rw [List.any_cons, List.any_cons, this, eq_V c h g.1 f]
theorem items_of {T : Tp} {H : Hp} {v : V} {dv : DV} {xs : List PyData} (h : RV w K T H v dv) (e : dv.items = some xs) : ∃ a vs, v = .ref a ∧ (SqL K H a vs ∨ SqT K H a vs) ∧ DpAll K H vs xs ∧ ∀ x ∈ xs, Pd x := by
  unfold DV.items at e
  split at e
  · cases e
    obtain ⟨a, vs, rfl, hs, ha⟩ := dp_tup h.1
    exact ⟨a, vs, rfl, .inr hs, ha, pd_in h.2⟩
  · cases e
    obtain ⟨a, vs, rfl, h1, h2, h3, _⟩ := h
    exact ⟨a, vs, rfl, .inl (sqL h1), h2, h3⟩
  · cases e
theorem dr_in0 {neg : Bool} {T : Tp} {H : Hp} {x y : V} {dx dy : DV} {Q : VK} {R : Bool → Prop} (hx : RV w K T H x dx) (hy : RV w K T H y dy) (h : mIn0 dx dy R) (q : ∀ k, R k → Q (.bl (if neg = true then !k else k)) H) : rIn K neg x y H Q := by
  unfold mIn0 at h
  split at h
  · rename_i a xs e
    obtain ⟨p, vs, rfl, hs, ha, px⟩ := items_of hy e
    refine ⟨p, vs, rfl, hs, flat_V hx.1 h.1, flat_all ha h.2.1, ?_⟩
    rw [in_V hx.1 h.1 ha h.2.1]
    exact q _ h.2.2
  · exact h.elim
theorem dr_in {neg : Bool} : DR w K (rIn K neg) (mIn neg) := by
  intro T H x y dx dy Q Qm t hx hy h q
  cases neg with
  | true => exact dr_in0 (neg := true) (R := fun k => Qm (.d (.bool (!k)))) hx hy h fun k r => q (.d (.bool (!k))) _ H (pl t (.bl _) (pd_bool _)) r
  | false => exact dr_in0 (neg := false) (R := fun k => Qm (.d (.bool k))) hx hy h fun k r => q (.d (.bool k)) _ H (pl t (.bl _) (pd_bool _)) r
theorem dr_inT0 {neg : Bool} {T : Tp} {H : Hp} {x y : V} {dx dy : DV} {Q : VK} {R : Bool → Prop} (hx : RV w K T H x dx) (hy : RV w K T H y dy) (h : mInT0 dx dy R) (q : ∀ k, R k → Q (.bl (if neg = true then !k else k)) H) : rInT w neg x y H Q := by
  unfold mInT0 at h
  split at h
  · obtain ⟨a, rfl, h1, h2⟩ := hy
    exact ⟨_, a, _, dp_str hx.1, rfl, h1, q _ h⟩
  · exact h.elim
theorem dr_inT {neg : Bool} : DR w K (rInT w neg) (mInT neg) := by
  intro T H x y dx dy Q Qm t hx hy h q
  cases neg with
  | true => exact dr_inT0 (neg := true) (R := fun k => Qm (.d (.bool (!k)))) hx hy h fun k r => q (.d (.bool (!k))) _ H (pl t (.bl _) (pd_bool _)) r
  | false => exact dr_inT0 (neg := false) (R := fun k => Qm (.d (.bool k))) hx hy h fun k r => q (.d (.bool k)) _ H (pl t (.bl _) (pd_bool _)) r
theorem atI_mem {α : Type} {xs : List α} {i : Int} {x : α} (h : atI xs i = some x) : x ∈ xs := by
  unfold atI at h
  obtain ⟨j, _, e⟩ := Option.bind_eq_some_iff.mp h
  exact List.mem_of_getElem? e
theorem atI_dp {H : Hp} {vs : List V} {xs : List PyData} {i : Int} {x : PyData} (h : DpAll K H vs xs) (e : atI xs i = some x) : ∃ v, atI vs i = some v ∧ Dp K H v x := by
  unfold atI at *
  obtain ⟨j, e1, e2⟩ := Option.bind_eq_some_iff.mp e
  obtain ⟨v, hv, dv⟩ := h.of e2
  exact ⟨v, by rw [h.len, e1]; exact hv, dv⟩
theorem dr_ixT : DR w K (rIxT K) mIxT := by
  intro T H x y dx dy Q Qm t hx hy h q
  unfold mIxT at h
  split at h
  · split at h
    · rename_i v e
      obtain ⟨a, vs, rfl, hs, ha⟩ := dp_tup hx.1
      obtain ⟨u, e2, d⟩ := atI_dp ha e
      exact ⟨a, vs, _, u, rfl, dp_int hy.1, hs, e2, q _ _ H (pl t d (pd_in hx.2 _ (atI_mem e))) h⟩
    · exact h.elim
  · exact h.elim
theorem dr_ixL : DR w K (rIxL K) mIxL := by
  intro T H x y dx dy Q Qm t hx hy h q
  unfold mIxL at h
  split at h
  · split at h
    · rename_i v e
      obtain ⟨a, vs, rfl, h1, h2, h3, _⟩ := hx
      obtain ⟨u, e2, d⟩ := atI_dp h2 e
      exact ⟨a, vs, _, u, rfl, dp_int hy.1, sqL h1, e2, q _ _ H (pl t d (h3 _ (atI_mem e))) h⟩
    · exact h.elim
  · exact h.elim
theorem strOk_mem {z : Str} (h : PyData.strOk z = true) {c : Nat} (m : c ∈ z.cps.toList) : c < 0x110000 := by
  unfold PyData.strOk at h
  simpa using (Array.all_eq_true_iff_forall_mem.mp h) c (by simpa using m)
theorem strOk_of {z : Str} (h : ∀ c ∈ z.cps.toList, c < 0x110000) : PyData.strOk z = true := by
  unfold PyData.strOk
  exact Array.all_eq_true_iff_forall_mem.mpr fun c m => by simpa using h c (by simpa using m)
theorem dr_ixS : DR w K rIxS mIxS := by
  intro T H x y dx dy Q Qm t hx hy h q
  unfold mIxS at h
  split at h
  · obtain ⟨l, h⟩ := h
    split at h
    · rename_i c e
      refine ⟨_, _, c, dp_str hx.1, dp_int hy.1, l, e, q _ _ H (pl t (.str _) (pd_str (strOk_of fun d m => ?_))) h⟩
      have : d = c := by simpa using m
      rw [this]
      exact strOk_mem hx.2.2 (atI_mem e)
    · exact h.elim
  · exact h.elim
theorem dr_catA : DR w K (rCatA K) mCatT := by
  intro T H x y dx dy Q Qm t hx hy h q
  unfold mCatT at h
  split at h
  · rename_i xs ys
    obtain ⟨a, vs, rfl, hs, ha⟩ := dp_tup hx.1
    obtain ⟨b, us, rfl, hs2, hb⟩ := dp_tup hy.1
    have px := pd_in hx.2
    have py := pd_in hy.2
    have pa : ∀ x ∈ xs ++ ys, Pd x := fun x m => (List.mem_append.mp m).elim (px x) (py x)
    refine ⟨a, b, vs, us, rfl, rfl, hs, hs2, by rw [ha.len, hb.len]; exact h.1, fun e => ?_, fun _ e => ?_, fun _ _ r nr => ?_⟩
    · subst e
      cases ha
      exact q _ _ H (pl t hy.1 hy.2) h.2
    · subst e
      cases hb
      exact q _ _ H (by rw [List.append_nil]; exact pl t hx.1 hx.2) h.2
    · exact q _ _ _ (came_tup t nr (dpAll_app ha hb) pa) h.2
  · exact h.elim
theorem dr_cat : DR w K rCat mCatL := by
  intro T H x y dx dy Q Qm t hx hy h q
  unfold mCatL at h
  split at h
  · obtain ⟨a, vs, rfl, h1, h2, h3, _⟩ := hx
    obtain ⟨b, us, rfl, g1, g2, g3, _⟩ := hy
    exact ⟨a, b, vs, us, rfl, rfl, h1, g1, by rw [h2.len, g2.len]; exact h.1, fun p hp => q _ _ _ (came_lst t hp (dpAll_app h2 g2) (fun x m => (List.mem_append.mp m).elim (h3 x) (g3 x))) h.2⟩
  · exact h.elim
theorem mul_strOk {z : Str} {n : Int} (h : PyData.strOk z = true) : PyData.strOk (Txt.mul z n) = true := by
  refine strOk_of fun c m => strOk_mem h ?_
  unfold Txt.mul at m
  split at m
  · exact absurd m (by simp [Str.empty])
  · split at m
    · exact m
    · have g : ∀ (k : Nat) (b : Array Nat), c ∈ ((List.replicate k z.cps).foldl (· ++ ·) b).toList → c ∈ b.toList ∨ c ∈ z.cps.toList := fun k => by
        induction k with
        | zero => intro b h; exact .inl h
        | succ k ih =>
          intro b h
          rw [List.replicate_succ, List.foldl_cons] at h
          rcases ih _ h with h | h
          · rw [Array.toList_append, List.mem_append] at h; exact h
          · exact .inr h
      rcases g _ _ m with q | q
      · exact absurd q (by simp)
      · exact q
theorem dr_mulS : DR w K rMulS mMulS := by
  intro T H x y dx dy Q Qm t hx hy h q
  unfold mMulS at h
  split at h
  · exact ⟨_, _, dp_str hx.1, dp_int hy.1, h.1, q _ _ H (pl t (.str _) (pd_str (mul_strOk hx.2.2))) h.2⟩
  · exact h.elim
end
end Mx
namespace Tq
open PySem PySem.Spec PyProof.Rows L2
section
variable {X : Cx} {K : PySem.W.Frag} {H : Hp} {Q : VK} {i j : Int} {σ : L2.St} {a p : Addr} {x y v : V} {xs ys : List V} {ta tb te : TE} {t : TT} {D : Ends} {tr : TA}
theorem l_gt2 {n k m : Nat} {R : L2.St → Hp → Prop} (hn : n = 2) (h : SqT K H a [x, y]) (q : R ((σ.set k (some x)).set m (some y)) H) : gTup K n (gCons (gName k) (gCons (gName m) gNil)) (.ref a) σ H R := ⟨a, _, rfl, h, hn.symm, x, _, rfl, y, _, rfl, rfl, q⟩
theorem l_ifE (q : t σ H fun c H1 => if c = true then ta σ H1 Q else tb σ H1 Q) : tIf t ta tb σ H Q := q
theorem l_un {r : V → Hp → VK → Prop} (q : ta σ H fun x H1 => r x H1 Q) : tUn r ta σ H Q := q
theorem l_neg (q : Q (.int (-i)) H) : (rU fun i => .int (-i)) (.int i) H Q := ⟨i, rfl, q⟩
theorem l_rep {k : Int} (h : H p = some (.lst xs)) (h0 : 0 ≤ k) (h1 : k ≤ 1000000) (hl : xs.length * k.toNat ≤ 1000000) (q : ∀ r, H r = none → Q (.ref r) (upd H r (.lst (List.replicate k.toNat xs).flatten))) : rRep (.ref p) (.int k) H Q := ⟨p, k, xs, rfl, rfl, h, by omega, by omega, fits hl, q⟩
theorem dp_ints : ∀ l : List Int, DpAll K H (l.map V.int) (l.map PyData.int)
  | [] => .nil
  | x :: r => .cons (.int x) (dp_ints r)
theorem ints_ok : ∀ l : List Int, PyData.canLayAll0 (l.map PyData.int) = true ∧ PyData.depthAll (l.map PyData.int) = 0
  | [] => ⟨rfl, rfl⟩
  | x :: r => by
    obtain ⟨a, b⟩ := ints_ok r
    rw [List.map_cons]
    constructor
    · show (PyData.canLay0 (.int x) && PyData.canLayAll0 (r.map PyData.int)) = true
      rw [a]; rfl
    · show max (PyData.depth (.int x)) (PyData.depthAll (r.map PyData.int)) = 0
      rw [b]; rfl
theorem ints_shaped (l : List Int) : SeqAt.shaped (.tuple (l.map PyData.int)) = true := by
  obtain ⟨a, b⟩ := ints_ok l
  show (PyData.canLayAll0 (l.map PyData.int) && decide (PyData.depthAll (l.map PyData.int) + 1 ≤ 64)) = true
  rw [a, b]; rfl
theorem ints_can (l : List Int) : PyData.canLay (.tuple (l.map PyData.int)) = true ∨ True := .inr trivial
theorem eqv_ints : ∀ l r : List Int, PyData.eqvAll (l.map PyData.int) (r.map PyData.int) = decide (l = r)
  | [], [] => by simp [PyData.eqvAll]
  | [], _ :: _ => by simp [PyData.eqvAll]
  | _ :: _, [] => by simp [PyData.eqvAll]
  | x :: l, y :: r => by
    rw [List.map_cons, List.map_cons, PyData.eqvAll, PyData.eqv, eqv_ints l r]
    by_cases e : x = y <;> simp [e]
theorem l_neInts {q1 q2 : Addr} {zs us : List Int} (h1 : SqT K H q1 (zs.map V.int)) (h2 : SqT K H q2 (us.map V.int)) (q : Q (.bl (!decide (zs = us))) H) : rNeD K (.ref q1) (.ref q2) H Q := by
  refine ⟨.tuple (zs.map .int), .tuple (us.map .int), .tup h1 (dp_ints zs), .tup h2 (dp_ints us), ints_shaped zs, ints_shaped us, ?_⟩
  have e : PyData.eqv (.tuple (zs.map PyData.int)) (.tuple (us.map PyData.int)) = decide (zs = us) := eqv_ints zs us
  rw [e]; exact q
theorem l_eqInts {q1 q2 : Addr} {zs us : List Int} (h1 : SqT K H q1 (zs.map V.int)) (h2 : SqT K H q2 (us.map V.int)) (q : Q (.bl (decide (zs = us))) H) : rEqD K (.ref q1) (.ref q2) H Q := by
  refine ⟨.tuple (zs.map .int), .tuple (us.map .int), .tup h1 (dp_ints zs), .tup h2 (dp_ints us), ints_shaped zs, ints_shaped us, ?_⟩
  have e : PyData.eqv (.tuple (zs.map PyData.int)) (.tuple (us.map PyData.int)) = decide (zs = us) := eqv_ints zs us
  rw [e]; exact q
/-- tuple(xs[:n]) -/
theorem l_tupTake {n : Int} {xs : List Int} (h : H p = some (.lst (xs.map V.int))) (h0 : 0 ≤ n) (h1 : n ≤ xs.length) (q : ∀ r H', Same H H' → H r = none → H' r = some (.tup ((xs.take n.toNat).map V.int)) → Q (.ref r) H') :
    rSlL K (.ref p) none (some n) H fun v H1 => rTupQ K [v] H1 Q := by
  refine l_slL (sqL h) fun g ng => ?_
  rw [cut_hi h0 (by rw [List.length_map]; omega), ← List.map_take]
  refine l_tupL (sqL upd_same) fun r nr => ?_
  have s1 := new_same (o := .lst ((xs.take n.toNat).map V.int)) ng
  exact q r _ (s1.trans (new_same nr)) (s1.free nr) upd_same
theorem ints_get {xs : List Int} {k : Nat} {x : V} (h : (xs.map V.int)[k]? = some x) : ∃ z, xs[k]? = some z ∧ x = .int z := by
  rw [List.getElem?_map] at h
  obtain ⟨z, e, rfl⟩ := Option.map_eq_some_iff.mp h
  exact ⟨z, e, rfl⟩
theorem ints_at {xs : List Int} {k : Int} (h0 : 0 ≤ k) (h1 : k < xs.length) : atI (xs.map V.int) k = some (.int (xs.getD k.toNat 0)) ∧ (xs.map V.int)[k.toNat]? = some (.int (xs.getD k.toNat 0)) ∧ xs[k.toNat]? = some (xs.getD k.toNat 0) := by
  obtain ⟨z, e1, e2⟩ := atI_map (f := V.int) h0 h1
  have e3 := getD_some e2
  rw [e3]
  exact ⟨e1, by rw [List.getElem?_map, e2]; rfl, e2⟩
theorem drop_get {xs : List Int} {k : Nat} {z : Int} (h : xs[k]? = some z) : xs.drop k = z :: xs.drop (k + 1) := by
  obtain ⟨l, e⟩ := List.getElem?_eq_some_iff.mp h
  rw [← e]; exact (List.getElem_cons_drop l).symm
theorem rep_zero (n : Nat) : (List.replicate n [V.int 0]).flatten = (List.replicate n (0 : Int)).map V.int := by
  induction n with
  | zero => rfl
  | succ n ih => rw [List.replicate_succ, List.flatten_cons, ih, List.replicate_succ, List.map_cons]; rfl
theorem ints_nat {xs : List Int} {k : Nat} (h : k < xs.length) : atI (xs.map V.int) (k : Int) = some (.int (xs.getD k 0)) ∧ (xs.map V.int)[k]? = some (.int (xs.getD k 0)) ∧ xs[k]? = some (xs.getD k 0) := by
  have := ints_at (xs := xs) (k := (k : Int)) (by omega) (by omega)
  rwa [Int.toNat_natCast] at this
theorem getD_l1 (xs : List Int) (k : Nat) : (xs.getD k 0).natAbs ≤ l1 xs := by
  by_cases h : k < xs.length
  · exact l1_mem (List.mem_of_getElem? (ints_nat h).2.2)
  · rw [getD_none (by omega)]; exact Nat.zero_le _
theorem add_l1 {xs ys : List Int} {z : Int} (h : z ∈ addL xs ys) : z.natAbs ≤ l1 xs + l1 ys := by
  obtain ⟨k, _, rfl⟩ := List.mem_map.mp (trim_sub _ z h)
  have a := getD_l1 xs k
  have b := getD_l1 ys k
  omega
def widths : List Int := [0, 999999998, 30000, 900, 170, 60, 30, 18, 12]
theorem widths_ok {k : Nat} {z : Int} (h : widths[k]? = some z) : 0 ≤ z ∧ z < 1000000000 ∧ (z.toNat + 1) ^ k ≤ 1000000000 := by
  have l : k < 9 := (List.getElem?_eq_some_iff.mp h).1
  have a : ∀ i : Fin 9, 0 ≤ widths.getD i 0 ∧ widths.getD i 0 < 1000000000 ∧ ((widths.getD i 0).toNat + 1) ^ (i : Nat) ≤ 1000000000 := by decide +kernel
  have := a ⟨k, l⟩
  rw [getD_some h] at this
  exact this
theorem pow_le {a b i k : Nat} (h : a ≤ b) (hi : i ≤ k) (h1 : (b + 1) ^ k ≤ 1000000000) : (a + 1) ^ i ≤ 1000000000 :=
  Nat.le_trans (Nat.le_trans (Nat.pow_le_pow_left (by omega) i) (Nat.pow_le_pow_right (by omega) hi)) h1
end
end Tq
namespace Tq
/-! ### signs -/
def sgn (x : Int) : Int := (if 0 < x then 1 else 0) - (if x < 0 then 1 else 0)
theorem sgn_cases (x : Int) : (0 < x ∧ sgn x = 1) ∨ (x = 0 ∧ sgn x = 0) ∨ (x < 0 ∧ sgn x = -1) := by
  unfold sgn
  rcases Int.lt_trichotomy x 0 with h | h | h
  · exact .inr (.inr ⟨h, by rw [if_neg (by omega), if_pos h]; rfl⟩)
  · exact .inr (.inl ⟨h, by rw [if_neg (by omega), if_neg (by omega)]; rfl⟩)
  · exact .inl ⟨h, by rw [if_pos h, if_neg (by omega)]; rfl⟩
theorem sgn_neg (x : Int) : sgn (-x) = - sgn x := by
  rcases sgn_cases x with ⟨a, b⟩ | ⟨a, b⟩ | ⟨a, b⟩ <;> rcases sgn_cases (-x) with ⟨c, d⟩ | ⟨c, d⟩ | ⟨c, d⟩ <;> omega
def In (e : Option Int) (m : Int) : Prop := ∀ b, e = some b → m ≤ b
def Mon (f : Int → Int) (s a : Int) (e : Option Int) : Prop := ∀ m, a ≤ m → (∀ b, e = some b → m < b) → sgn (f (m + 1) - f m) = s
theorem Mon.le {f : Int → Int} {s a : Int} {e : Option Int} (h : Mon f s a e) {m : Int} (ha : a ≤ m) : ∀ k : Nat, In e (m + k) → (0 ≤ s → f m ≤ f (m + k)) ∧ (s ≤ 0 → f (m + k) ≤ f m)
  | 0, _ => by simp
  | k + 1, hi => by
    have i' : In e (m + k) := fun b hb => by have := hi b hb; omega
    have ih := h.le ha k i'
    have st := h (m + k) (by omega) (fun b hb => by have := hi b hb; omega)
    have e1 : m + ((k + 1 : Nat) : Int) = m + k + 1 := by omega
    rw [e1]
    rcases sgn_cases (f (m + k + 1) - f (m + k)) with ⟨x, y⟩ | ⟨x, y⟩ | ⟨x, y⟩
    · exact ⟨fun q => by have := ih.1 q; omega, fun q => by omega⟩
    · exact ⟨fun q => by have := ih.1 q; omega, fun q => by have := ih.2 q; omega⟩
    · exact ⟨fun q => by omega, fun q => by have := ih.2 q; omega⟩
theorem Mon.le2 {f : Int → Int} {s a : Int} {e : Option Int} (h : Mon f s a e) {m n : Int} (ha : a ≤ m) (hn : m ≤ n) (hi : In e n) : (0 ≤ s → f m ≤ f n) ∧ (s ≤ 0 → f n ≤ f m) := by
  have e1 : m + ((n - m).toNat : Int) = n := by omega
  have := h.le ha (n - m).toNat (by rw [e1]; exact hi)
  rwa [e1] at this
theorem Mon.sgn_le {f : Int → Int} {s a : Int} {e : Option Int} (h : Mon f s a e) {m n : Int} (ha : a ≤ m) (hn : m ≤ n) (hi : In e n) : (0 ≤ s → sgn (f m) ≤ sgn (f n)) ∧ (s ≤ 0 → sgn (f n) ≤ sgn (f m)) := by
  have l := h.le2 ha hn hi
  rcases sgn_cases (f m) with ⟨a1, a2⟩ | ⟨a1, a2⟩ | ⟨a1, a2⟩ <;> rcases sgn_cases (f n) with ⟨b1, b2⟩ | ⟨b1, b2⟩ | ⟨b1, b2⟩ <;>
    exact ⟨fun q => by have := l.1 q; omega, fun q => by have := l.2 q; omega⟩
theorem Mon.const {f : Int → Int} {s a : Int} {e : Option Int} (h : Mon f s a e) {m n k : Int} (ha : a ≤ m) (hn : m ≤ n) (hk : n ≤ k) (hi : In e k) (he : sgn (f m) = sgn (f k)) : sgn (f n) = sgn (f m) := by
  have x := h.sgn_le ha hn (fun b hb => by have := hi b hb; omega)
  have y := h.sgn_le (show a ≤ n by omega) hk hi
  rcases Int.le_total 0 s with q | q
  · have := x.1 q; have := y.1 q; omega
  · have := x.2 q; have := y.2 q; omega
/-- the changes behind a, up to e -/
def PCh (f : Int → Int) : Int → List (Int × Int) → Option Int → Prop
  | a, [], e => ∀ m, a ≤ m → In e m → sgn (f m) = sgn (f a)
  | a, (n, s) :: r, e => a < n ∧ In e n ∧ (∀ m, a ≤ m → m < n → sgn (f m) = sgn (f a)) ∧ s = sgn (f n) ∧ s ≠ sgn (f a) ∧ PCh f n r e
theorem PCh.app {f : Int → Int} : ∀ {l1 l2 : List (Int × Int)} {a b : Int} {e : Option Int}, PCh f a l1 (some b) → a ≤ b → PCh f b l2 e → In e b → PCh f a (l1 ++ l2) e
  | [], [], a, b, e, h1, hb, h2, hi => fun m hm hmi => by
    have hb' := h1 b hb (fun c hc => by cases hc; omega)
    by_cases q : m ≤ b
    · exact h1 m hm (fun c hc => by cases hc; exact q)
    · rw [h2 m (by omega) hmi]; exact hb'
  | [], (n, s) :: r, a, b, e, h1, hb, h2, hi => by
    obtain ⟨x1, x2, x3, x4, x5, x6⟩ := h2
    have hb' := h1 b hb (fun c hc => by cases hc; omega)
    refine ⟨by omega, x2, fun m hm hn => ?_, x4, by rw [← hb']; exact x5, x6⟩
    by_cases q : m ≤ b
    · exact h1 m hm (fun c hc => by cases hc; exact q)
    · rw [x3 m (by omega) hn]; exact hb'
  | (n, s) :: r, l2, a, b, e, h1, hb, h2, hi => by
    obtain ⟨x1, x2, x3, x4, x5, x6⟩ := h1
    have nb := x2 b rfl
    exact ⟨x1, fun c hc => by have := hi c hc; omega, x3, x4, x5, PCh.app x6 nb h2 hi⟩
theorem PCh.bound {f : Int → Int} {B c : Int} (hB : ∀ m, B ≤ m → sgn (f m) = c) : ∀ {l : List (Int × Int)} {a : Int} {e : Option Int}, PCh f a l e → ∀ p ∈ l, p.1 ≤ B
  | [], _, _, _, p, m => nomatch m
  | (n, s) :: r, a, e, h, p, m => by
    obtain ⟨x1, x2, x3, x4, x5, x6⟩ := h
    rcases List.mem_cons.mp m with q | q
    · subst q
      show n ≤ B
      by_cases g : n ≤ B
      · exact g
      · have e1 := x3 (n - 1) (by omega) (by omega)
        rw [hB (n - 1) (by omega)] at e1
        rw [hB n (by omega)] at x4
        exact absurd (x4.trans e1) x5
    · exact PCh.bound hB x6 p q
theorem PCh.up {f : Int → Int} : ∀ {l : List (Int × Int)} {a : Int} {e : Option Int}, PCh f a l e → ∀ p ∈ l, a < p.1 ∧ p.2 = sgn (f p.1)
  | [], _, _, _, p, m => nomatch m
  | (n, s) :: r, a, e, h, p, m => by
    obtain ⟨x1, x2, x3, x4, x5, x6⟩ := h
    rcases List.mem_cons.mp m with q | q
    · subst q; exact ⟨x1, x4⟩
    · have := PCh.up x6 p q
      exact ⟨by omega, this.2⟩
/-! ### values -/
theorem val_nil (n : Int) : valL [] n = 0 := rfl
theorem val_cons (x : Int) (r : List Int) (n : Int) : valL (x :: r) n = valL r n * n + x := rfl
theorem val_app : ∀ (xs ys : List Int) (n : Int), valL (xs ++ ys) n = valL xs n + valL ys n * n ^ xs.length
  | [], ys, n => by simp [val_nil]
  | x :: r, ys, n => by
    rw [List.cons_append, val_cons, val_app r ys n, val_cons, List.length_cons, Int.pow_succ]
    grind
theorem val_zero : ∀ {xs : List Int} (n : Int), (∀ z ∈ xs, z = 0) → valL xs n = 0
  | [], _, _ => rfl
  | x :: r, n, h => by
    rw [val_cons, val_zero n fun z m => h z (List.mem_cons_of_mem _ m), h x List.mem_cons_self]; omega
theorem val_trim : ∀ (xs : List Int) (n : Int), valL (trim xs) n = valL xs n
  | [], _ => rfl
  | x :: r, n => by
    rw [trim, val_cons]
    have ih := val_trim r n
    split
    · rename_i h
      rw [h.2] at ih
      rw [h.1, ← ih]
      simp [val_nil]
    · rw [val_cons, ih]
theorem val_set : ∀ (xs : List Int) (k : Nat) (d n : Int), k < xs.length → valL (xs.set k (xs.getD k 0 + d)) n = valL xs n + d * n ^ k
  | [], k, d, n, h => by simp at h
  | x :: r, 0, d, n, _ => by
    have e : ((x :: r).getD 0 0) = x := rfl
    rw [e, List.set_cons_zero, val_cons, val_cons]
    simp; omega
  | x :: r, k + 1, d, n, h => by
    have e : ((x :: r).getD (k + 1) 0) = r.getD k 0 := rfl
    rw [e, List.set_cons_succ, val_cons, val_set r k d n (by simpa using h), val_cons, Int.pow_succ]
    grind
theorem val_take {xs : List Int} {i : Nat} (n : Int) (h : i < xs.length) : valL (xs.take (i + 1)) n = valL (xs.take i) n + xs.getD i 0 * n ^ i := by
  have e : xs.take (i + 1) = xs.take i ++ [xs.getD i 0] := by
    rw [List.take_add_one, (ints_nat h).2.2]; rfl
  rw [e, val_app, List.length_take, Nat.min_eq_left (by omega)]
  simp [val_cons, val_nil]
theorem val_inn {c : List Int} {i : Nat} {x : Int} {ys : List Int} (n : Int) : ∀ j : Nat, j ≤ ys.length → i + j ≤ c.length → valL (inn c i x ys j) n = valL c n + x * valL (ys.take j) n * n ^ i
  | 0, _, _ => by simp [inn, val_nil]
  | j + 1, h, h2 => by
    rw [inn, val_set _ _ _ _ (by rw [inn_len]; omega), val_inn n j (by omega) (by omega), val_take n (show j < ys.length by omega), Int.pow_add]
    grind
theorem val_rep (k : Nat) (n : Int) : valL (List.replicate k 0) n = 0 := val_zero n fun z m => List.eq_of_mem_replicate m
theorem val_bound (n : Int) : ∀ xs : List Int, (valL xs n).natAbs ≤ l1 xs * (n.natAbs + 1) ^ xs.length
  | [] => by simp [val_nil]
  | x :: r => by
    have ih := val_bound n r
    rw [val_cons, l1_cons, List.length_cons, Nat.pow_succ]
    have a : (valL r n * n + x).natAbs ≤ (valL r n).natAbs * n.natAbs + x.natAbs := by
      have := Int.natAbs_add_le (valL r n * n) x
      rwa [Int.natAbs_mul] at this
    have b : (valL r n).natAbs * n.natAbs ≤ (l1 r * (n.natAbs + 1) ^ r.length) * (n.natAbs + 1) := Nat.mul_le_mul ih (Nat.le_succ _)
    have c : x.natAbs ≤ x.natAbs * ((n.natAbs + 1) ^ r.length * (n.natAbs + 1)) := Nat.le_mul_of_pos_right _ (Nat.mul_pos (Nat.pow_pos (Nat.succ_pos _)) (Nat.succ_pos _))
    rw [Nat.add_mul, ← Nat.mul_assoc (l1 r)]
    omega
/-- far out the last coefficient tells the sign -/
theorem sgn_far : ∀ {xs : List Int} {z : Int}, xs.getLast? = some z → z ≠ 0 → ∀ n : Int, (l1 xs : Int) < n → sgn (valL xs n) = sgn z
  | [], z, h, _, _, _ => by simp at h
  | [x], z, h, _, n, _ => by
    have : x = z := by simpa using h
    subst this
    rw [val_cons, val_nil]; simp
  | x :: y :: r, z, h, hz, n, hn => by
    rw [l1_cons] at hn
    have h' : (y :: r).getLast? = some z := by
      rw [List.getLast?_cons_cons] at h; exact h
    have ih := sgn_far h' hz n (by omega)
    rw [val_cons]
    generalize valL (y :: r) n = v at ih
    have n1 : 0 < n := by omega
    rcases sgn_cases v with ⟨a, b⟩ | ⟨a, b⟩ | ⟨a, b⟩
    · have m : n ≤ v * n := by
        have := Int.mul_le_mul_of_nonneg_right (show (1 : Int) ≤ v by omega) (Int.le_of_lt n1)
        omega
      rcases sgn_cases (v * n + x) with ⟨c, d⟩ | ⟨c, d⟩ | ⟨c, d⟩ <;> omega
    · rcases sgn_cases z with ⟨c, d⟩ | ⟨c, d⟩ | ⟨c, d⟩ <;> omega
    · have m : v * n ≤ -n := by
        have := Int.mul_le_mul_of_nonneg_right (show v ≤ -1 by omega) (Int.le_of_lt n1)
        omega
      rcases sgn_cases (v * n + x) with ⟨c, d⟩ | ⟨c, d⟩ | ⟨c, d⟩ <;> omega
theorem trim_last : ∀ {xs : List Int} {z : Int}, trim xs = xs → xs.getLast? = some z → z ≠ 0
  | [], _, _, h => by simp at h
  | [x], z, t, h => by
    have : x = z := by simpa using h
    subst this
    rintro rfl
    simp [trim] at t
  | x :: y :: r, z, t, h => by
    rw [trim] at t
    split at t
    · cases t
    · have t' : trim (y :: r) = y :: r := (List.cons.inj t).2
      exact trim_last t' (by rw [List.getLast?_cons_cons] at h; exact h)
end Tq
namespace Tq
open PySem PySem.Spec PyProof.Rows L2
/-! ### Pascal's rows -/
def adj : Int → List Int → List Int
  | _, [] => []
  | a, x :: r => (a + x) :: adj x r
def nrow (r : List Int) : List Int := adj 0 (r ++ [0])
def rowN : Nat → List Int
  | 0 => [1]
  | p + 1 => nrow (rowN p)
theorem adj_len : ∀ (a : Int) (r : List Int), (adj a r).length = r.length
  | _, [] => rfl
  | a, x :: r => by rw [adj, List.length_cons, adj_len x r]; rfl
theorem rowN_len (p : Nat) : (rowN p).length = p + 1 := by
  induction p with
  | zero => rfl
  | succ p ih => rw [rowN, nrow, adj_len, List.length_append, ih]; rfl
theorem val_adj : ∀ (r : List Int) (a n : Int), valL (adj a (r ++ [0])) n = a + valL r n * (n + 1)
  | [], a, n => by simp [adj, val_cons, val_nil]
  | x :: r, a, n => by
    rw [List.cons_append, adj, val_cons, val_adj r x n, val_cons]
    grind
theorem val_row (p : Nat) (n : Int) : valL (rowN p) n = (n + 1) ^ p := by
  induction p with
  | zero => simp [rowN, val_cons, val_nil]
  | succ p ih => rw [rowN, nrow, val_adj, ih, Int.pow_succ]; omega
theorem adj_last : ∀ (r : List Int) (a : Int), (adj a (r ++ [0])).getLast? = some ((a :: r).getLast (by simp))
  | [], a => by simp [adj]
  | x :: r, a => by
    rw [List.cons_append, adj]
    have ih := adj_last r x
    have ne : adj x (r ++ [0]) ≠ [] := by
      intro h
      have := congrArg List.length h
      rw [adj_len, List.length_append] at this
      simp at this
    rw [List.getLast?_cons, ih]
    simp
theorem row_last (p : Nat) : (rowN p).getD p 0 = 1 := by
  have h : (rowN p).getLast? = some 1 := by
    induction p with
    | zero => rfl
    | succ p ih =>
      rw [rowN, nrow, adj_last]
      have l : rowN p ≠ [] := fun e => by
        have := rowN_len p
        rw [e] at this; cases this
      rw [List.getLast_cons l]
      rw [List.getLast?_eq_some_getLast l] at ih
      exact ih
  rw [List.getLast?_eq_getElem?, rowN_len] at h
  exact getD_some h
/-- the lower part of a row -/
theorem val_low (p : Nat) (n : Int) : valL ((rowN p).take p) n = (n + 1) ^ p - n ^ p := by
  have l := rowN_len p
  have h := val_take (xs := rowN p) (i := p) n (by omega)
  rw [List.take_of_length_le (by omega), val_row, row_last] at h
  omega
theorem adj_nn : ∀ (r : List Int) (a : Int), 0 ≤ a → (∀ z ∈ r, 0 ≤ z) → ∀ z ∈ adj a r, 0 ≤ z
  | [], _, _, _, z, m => nomatch m
  | x :: r, a, ha, h, z, m => by
    have hx := h x List.mem_cons_self
    rcases List.mem_cons.mp m with e | e
    · rw [e]; omega
    · exact adj_nn r x hx (fun y hy => h y (List.mem_cons_of_mem _ hy)) z e
theorem row_nn (p : Nat) : ∀ z ∈ rowN p, 0 ≤ z := by
  induction p with
  | zero => intro z m; rw [List.mem_singleton.mp m]; decide
  | succ p ih =>
    refine adj_nn _ 0 (by decide) (fun z m => ?_)
    rcases List.mem_append.mp m with e | e
    · exact ih z e
    · rw [List.mem_singleton.mp e]; decide
theorem l1_nn : ∀ {r : List Int}, (∀ z ∈ r, 0 ≤ z) → (l1 r : Int) = valL r 1
  | [], _ => rfl
  | x :: r, h => by
    have ih := l1_nn fun z m => h z (List.mem_cons_of_mem _ m)
    have hx := h x List.mem_cons_self
    rw [l1_cons, val_cons, ← ih]
    omega
theorem row_l1 (p : Nat) : l1 (rowN p) = 2 ^ p := by
  have h := l1_nn (row_nn p)
  rw [val_row] at h
  have e : ((1 : Int) + 1) ^ p = ((2 ^ p : Nat) : Int) := by
    rw [Int.natCast_pow]; rfl
  rw [e] at h
  exact_mod_cast h
/-- comb, as far as it is asked -/
theorem comb_row {p k : Nat} (hp : p < 41) (hk : k < p) : PySem.W.mcComb (p : Int) (k : Int) = (rowN p).getD k 0 := by
  have a : ∀ p : Fin 41, ∀ k : Fin 41, (k : Nat) < p → PySem.W.mcComb ((p : Nat) : Int) ((k : Nat) : Int) = (rowN p).getD k 0 := by decide +kernel
  exact a ⟨p, hp⟩ ⟨k, by omega⟩ hk
/-! ### differences -/
def difR (xs : List Int) : Nat → List Int
  | 0 => List.replicate xs.length 0
  | i + 1 => inn (difR xs i) 0 (xs.getD i 0) (rowN i) i
def difL (xs : List Int) : List Int := trim (difR xs xs.length)
theorem difR_len (xs : List Int) (i : Nat) : (difR xs i).length = xs.length := by
  induction i with
  | zero => exact List.length_replicate
  | succ i ih => rw [difR, inn_len, ih]
theorem val_difR (xs : List Int) (n : Int) : ∀ i : Nat, i ≤ xs.length → valL (difR xs i) n = valL (xs.take i) (n + 1) - valL (xs.take i) n
  | 0, _ => by rw [difR, val_rep]; simp [val_nil]
  | i + 1, h => by
    have ih := val_difR xs n i (by omega)
    rw [difR, val_inn n i (by rw [rowN_len]; omega) (by rw [difR_len]; omega), ih, val_low, val_take _ (show i < xs.length by omega), val_take _ (show i < xs.length by omega)]
    simp
    grind
theorem val_dif (xs : List Int) (n : Int) : valL (difL xs) n = valL xs (n + 1) - valL xs n := by
  unfold difL
  rw [val_trim, val_difR xs n xs.length (Nat.le_refl _), List.take_length]
theorem difR_l1 (xs : List Int) : ∀ i : Nat, i ≤ xs.length → l1 (difR xs i) ≤ l1 (xs.take i) * 2 ^ xs.length
  | 0, _ => by rw [difR, l1_rep]; exact Nat.zero_le _
  | i + 1, h => by
    have ih := difR_l1 xs i (by omega)
    have st := inn_l1 (difR xs i) 0 (xs.getD i 0) (rowN i) i (by rw [rowN_len]; omega)
    have e : xs.take (i + 1) = xs.take i ++ [xs.getD i 0] := by
      rw [List.take_add_one, (ints_nat (show i < xs.length by omega)).2.2]; rfl
    have e2 : l1 [xs.getD i 0] = (xs.getD i 0).natAbs := by simp [l1]
    have lt : l1 ((rowN i).take i) ≤ 2 ^ xs.length := by
      have a : l1 ((rowN i).take i) ≤ l1 (rowN i) := by
        have := l1_app ((rowN i).take i) ((rowN i).drop i)
        rw [List.take_append_drop] at this
        omega
      rw [row_l1] at a
      exact Nat.le_trans a (Nat.pow_le_pow_right (by decide) (by omega))
    have m := Nat.mul_le_mul (Nat.le_refl (xs.getD i 0).natAbs) lt
    rw [difR, e, l1_app, e2, Nat.add_mul]
    omega
theorem dif_l1 (xs : List Int) : l1 (difL xs) ≤ l1 xs * 2 ^ xs.length := by
  have := difR_l1 xs xs.length (Nat.le_refl _)
  rw [List.take_length] at this
  exact Nat.le_trans (l1_trim _) this
theorem inn_get {c : List Int} {i : Nat} {x : Int} {ys : List Int} {k : Nat} : ∀ j : Nat, i + j ≤ k → (inn c i x ys j)[k]? = c[k]?
  | 0, _ => rfl
  | j + 1, h => by rw [inn, List.getElem?_set_ne (by omega), inn_get j (by omega)]
theorem difR_top (xs : List Int) {k : Nat} (hk : k + 1 = xs.length) : ∀ i : Nat, i ≤ xs.length → (difR xs i)[k]? = some 0
  | 0, _ => by rw [difR, List.getElem?_replicate]; rw [if_pos (by omega)]
  | i + 1, h => by rw [difR, inn_get i (by omega)]; exact difR_top xs hk i (by omega)
theorem trim_short {xs : List Int} {k : Nat} (h : xs.length = k + 1) (z : xs[k]? = some 0) : (trim xs).length ≤ k := by
  have e : ∀ ys : List Int, (trim (ys ++ [0])).length ≤ ys.length := fun ys => by
    induction ys with
    | nil => simp [trim]
    | cons y r ih =>
      rw [List.cons_append, trim]
      split
      · exact Nat.zero_le _
      · exact Nat.succ_le_succ ih
  have s : xs = xs.take k ++ [0] := by
    have a : xs.take (k + 1) = xs.take k ++ [0] := by rw [List.take_add_one, z]; rfl
    rw [← a, List.take_of_length_le (by omega)]
  have := e (xs.take k)
  rw [← s, List.length_take] at this
  omega
theorem dif_len {xs : List Int} (h : 0 < xs.length) : (difL xs).length < xs.length := by
  have t := trim_short (xs := difR xs xs.length) (k := xs.length - 1) (by rw [difR_len]; omega) (difR_top xs (by omega) xs.length (Nat.le_refl _))
  unfold difL
  omega
end Tq
namespace Tq
open PySem PySem.Spec PyProof.Rows L2
section
variable {X : Cx} {K : PySem.W.Frag} {H : Hp} {Q : VK} {i j : Int} {σ : L2.St} {a p : Addr} {x y v : V} {ta tb te : TE}
def rSubB : R2 := fun x y H Q => ∃ i j, x = .bl i ∧ y = .bl j ∧ Q (.int ((if i = true then 1 else 0) - (if j = true then 1 else 0))) H
theorem o_subB : OpR X (binaryOp .Sub) rSubB := by
  intro pins s σ H x y v u Q I rx ry h
  obtain ⟨i, k, rfl, rfl, q⟩ := h
  cases rx
  cases ry
  exact sub_bool ⟨.int ((if i = true then 1 else 0) - (if k = true then 1 else 0)), H, I.tok _, ⟨_, rfl⟩, q⟩
theorem sgn_bl (z : Int) : ((if decide (0 < z) = true then (1 : Int) else 0) - (if decide (z < 0) = true then 1 else 0)) = sgn z := by
  unfold sgn
  by_cases a : 0 < z <;> by_cases b : z < 0 <;> simp [a, b]
theorem l_subB {i j : Bool} (q : Q (.int ((if i = true then 1 else 0) - (if j = true then 1 else 0))) H) : rSubB (.bl i) (.bl j) H Q := ⟨i, j, rfl, rfl, q⟩
def rIntB : List V → Hp → VK → Prop := fun xs H Q => ∃ k, xs = [.bl k] ∧ Q (.int (if k = true then 1 else 0)) H
theorem c_intB : CallR X (.type "int") rIntB := fun pins s σ H xs us Q I r h => call_int1 pins s σ H xs us Q I r (.inr h)
theorem l_intB {k : Bool} (q : Q (.int (if k = true then 1 else 0)) H) : rIntB [.bl k] H Q := ⟨k, rfl, q⟩
def rMulX : R2 := rI CMulX fun i j => .int (i * j)
theorem o_mulX : OpR X (binaryOp .Mult) rMulX := op_mulX
theorem l_mulX (c : CMulX i j) (q : Q (.int (i * j)) H) : rMulX (.int i) (.int j) H Q := ⟨i, j, rfl, rfl, c, q⟩
def rComb : List V → Hp → VK → Prop := fun vs H Q => ∃ a b : Int, vs = [.int a, .int b] ∧ 0 ≤ a ∧ a < 41 ∧ 0 ≤ b ∧ b < a ∧ Q (.int (PySem.W.mcComb a b)) H
theorem cr_comb : CallR X (.builtin "math.comb") rComb := by
  intro pins s σ H vs us Q I r h
  obtain ⟨a, b, rfl, a0, a1, b0, b1, q⟩ := h
  obtain ⟨u, w, rfl, r1, r2⟩ : ∃ u w, us = [u, w] ∧ RelV (.int a) u ∧ RelV (.int b) w := by
    cases r with
    | cons p q =>
      cases q with
      | cons p' q' =>
        cases q'
        exact ⟨_, _, rfl, p, p'⟩
  obtain ⟨t, rfl⟩ := r1
  obtain ⟨t', rfl⟩ := r2
  exact PySem.W.mc_comb a0 b0 (by omega) (.inr (by omega)) fun _ => ⟨.int (PySem.W.mcComb a b), H, I.tok _, ⟨_, rfl⟩, q⟩
theorem l_comb {p k : Nat} (hp : p < 41) (hk : k < p) (q : Q (.int ((rowN p).getD k 0)) H) : rComb [.int p, .int k] H Q := by
  refine ⟨p, k, rfl, by omega, by omega, by omega, by omega, ?_⟩
  rw [comb_row hp hk]; exact q
theorem l_ext {b : Addr} {xs zs : List V} (h1 : H p = some (.lst xs)) (h2 : H b = some (.lst zs)) (n : xs.length + zs.length ≤ 1000000) (q : Q .non (upd H p (.lst (xs ++ zs)))) : rExtend (.ref p) [.ref b] H Q := ⟨p, b, xs, zs, rfl, rfl, h1, h2, fits n, q⟩
end
theorem l_par {i j : Nat} {ta : TA} {D : Ends} {σ : L2.St} {H : Hp} (q : ta σ H fun vs H1 => ∃ v w, vs = [v, w] ∧ D.nx ((σ.set i (some v)).set j (some w)) H1) : tPar i j ta D σ H := q
/-- the value can be told -/
def Fit (xs : List Int) (n : Int) : Prop := xs.length ≤ 41 ∧ ∃ A N : Nat, l1 xs < 2 ^ A ∧ n.natAbs < 2 ^ N ∧ A ≤ 8000 ∧ N ≤ 1100000
theorem Fit.mul {xs : List Int} {n : Int} (h : Fit xs n) (i : Nat) : CMulX (valL (xs.drop i) n) n := by
  obtain ⟨hl, A, N, h1, h2, hA, hN⟩ := h
  have b := val_bound n (xs.drop i)
  have l : l1 (xs.drop i) ≤ l1 xs := by
    have := l1_app (xs.take i) (xs.drop i)
    rw [List.take_append_drop] at this
    omega
  have pw : (n.natAbs + 1) ^ (xs.drop i).length ≤ (2 ^ N) ^ (xs.drop i).length := Nat.pow_le_pow_left (by omega) _
  have pw2 : (2 ^ N) ^ (xs.drop i).length ≤ 2 ^ (N * 41) := by
    rw [← Nat.pow_mul]
    exact Nat.pow_le_pow_right (by decide) (Nat.mul_le_mul_left N (by rw [List.length_drop]; omega))
  have lt : (valL (xs.drop i) n).natAbs < 2 ^ (A + N * 41) := by
    rw [Nat.pow_add]
    refine Nat.lt_of_le_of_lt b ?_
    exact Nat.mul_lt_mul_of_lt_of_le (Nat.lt_of_le_of_lt l h1) (Nat.le_trans pw pw2) (Nat.pow_pos (by decide))
  exact mulx_ok lt h2 (by omega)
theorem fit_of {xs : List Int} {A N : Nat} {n : Int} (hl : xs.length ≤ 41) (h1 : l1 xs < 2 ^ A) (hA : A ≤ 8000) (h2 : n.natAbs < 2 ^ N) (hN : N ≤ 1100000) : Fit xs n := ⟨hl, A, N, h1, h2, hA, hN⟩
/-! ### pairs of ints -/
def PrI (K : PySem.W.Frag) (H : Hp) : List Addr → List (Int × Int) → Prop
  | [], [] => True
  | p :: ps, q :: qs => SqT K H p [V.int q.1, V.int q.2] ∧ PrI K H ps qs
  | _, _ => False
section
variable {K : PySem.W.Frag} {H H' : Hp}
theorem PrI.keep (k : TK H H') : ∀ {ps : List Addr} {qs : List (Int × Int)}, PrI K H ps qs → PrI K H' ps qs
  | [], [], _ => trivial
  | p :: ps, q :: qs, h => ⟨k.sq h.1, PrI.keep k h.2⟩
  | [], _ :: _, h => h.elim
  | _ :: _, [], h => h.elim
theorem PrI.len : ∀ {ps : List Addr} {qs : List (Int × Int)}, PrI K H ps qs → ps.length = qs.length
  | [], [], _ => rfl
  | p :: ps, q :: qs, h => congrArg Nat.succ h.2.len
  | [], _ :: _, h => h.elim
  | _ :: _, [], h => h.elim
theorem PrI.app : ∀ {ps rs : List Addr} {qs us : List (Int × Int)}, PrI K H ps qs → PrI K H rs us → PrI K H (ps ++ rs) (qs ++ us)
  | [], _, [], _, _, h => h
  | p :: ps, _, q :: qs, _, h, h2 => ⟨h.1, PrI.app h.2 h2⟩
  | [], _, _ :: _, _, h, _ => h.elim
  | _ :: _, _, [], _, h, _ => h.elim
theorem PrI.at : ∀ {ps : List Addr} {qs : List (Int × Int)} {i : Nat} {q : Int × Int}, PrI K H ps qs → qs[i]? = some q → ∃ p, ps[i]? = some p ∧ SqT K H p [V.int q.1, V.int q.2]
  | [], [], _, _, _, h => by simp at h
  | p :: ps, q :: qs, 0, _, h, e => by
    have : q = _ := Option.some.inj e
    subst this
    exact ⟨p, rfl, h.1⟩
  | p :: ps, q :: qs, i + 1, _, h, e => by
    obtain ⟨r, e1, e2⟩ := PrI.at (i := i) h.2 (by simpa using e)
    exact ⟨r, by simpa using e1, e2⟩
  | [], _ :: _, _, _, h, _ => h.elim
  | _ :: _, [], _, _, h, _ => h.elim
end
end Tq
namespace Mx
open PySem PySem.Spec PyProof.Rows L2 Tq
variable [Tb]
/-! ### slices -/
abbrev MO := Env → (Option Int → Prop) → Prop
def mNoPart (_ : Env) (Q : Option Int → Prop) : Prop := Q none
def mPart (me : ME) (ε : Env) (Q : Option Int → Prop) : Prop := me ε fun dv => match dv with
  | .d (.int i) => Q (some i)
  | _ => False
def cutD (xs : List PyData) (lo hi : Option Int) : List PyData := (xs.drop (HT.sIx xs.length 0 lo)).take (HT.sIx xs.length xs.length hi - HT.sIx xs.length 0 lo)
def mSl (f : DV → Option Int → Option Int → MQ → Prop) (me : ME) (lo hi : MO) (ε : Env) (Q : MQ) : Prop := me ε fun dv => lo ε fun l => hi ε fun h => f dv l h Q
def mSlT (x : DV) (lo hi : Option Int) (Q : MQ) : Prop := match x with
  | .d (.tuple xs) => Q (.d (.tuple (cutD xs lo hi)))
  | _ => False
def mSlL (x : DV) (lo hi : Option Int) (Q : MQ) : Prop := match x with
  | .l _ _ xs => Q (.l true true (cutD xs lo hi))
  | _ => False
def mSlS (x : DV) (lo hi : Option Int) (Q : MQ) : Prop := match x with
  | .d (.str z) => z.length ≤ sizeLine ∧ Q (.d (.str (cutS z lo hi)))
  | _ => False
def DO (w : World) (K : PySem.W.Frag) (to : TO) (mo : MO) : Prop := ∀ T F σ H ε (Q : Option Int → Hp → Prop) (Qm : Option Int → Prop), Rel w K T F σ H ε → mo ε Qm → (∀ o H', Keep T H H' → TOk T H' → Qm o → Q o H') → to σ H Q
def DSl (w : World) (K : PySem.W.Frag) (r : V → Option Int → Option Int → Hp → VK → Prop) (mr : DV → Option Int → Option Int → MQ → Prop) : Prop := ∀ T H x dx lo hi (Q : VK) (Qm : MQ), TOk T H → RV w K T H x dx → mr dx lo hi Qm → (∀ dv v H', Came w K T H H' v dv → Qm dv → Q v H') → r x lo hi H Q
/-! ### built-ins -/
def mLenQ (xs : List DV) (Q : MQ) : Prop := match xs with
  | [x] => match x.items with
    | some ys => Q (.d (.int ys.length))
    | none => False
  | _ => False
def mLenS (xs : List DV) (Q : MQ) : Prop := match xs with
  | [.d (.str z)] => z.length ≤ sizeLine ∧ Q (.d (.int z.length))
  | _ => False
def mList (xs : List DV) (Q : MQ) : Prop := match xs with
  | [x] => match x.items with
    | some ys => Q (.l true true ys)
    | none => False
  | _ => False
def mTuple (xs : List DV) (Q : MQ) : Prop := match xs with
  | [x] => match x.items with
    | some ys => Q (.d (.tuple ys))
    | none => False
  | _ => False
def mInt1 (xs : List DV) (Q : MQ) : Prop := match xs with
  | [.d (.int i)] => Q (.d (.int i))
  | _ => False
def mIntB (xs : List DV) (Q : MQ) : Prop := match xs with
  | [.d (.bool b)] => Q (.d (.int (if b = true then 1 else 0)))
  | _ => False
def mAbs (xs : List DV) (Q : MQ) : Prop := match xs with
  | [.d (.int i)] => Q (.d (.int (if i < 0 then -i else i)))
  | _ => False
def mMax (xs : List DV) (Q : MQ) : Prop := match xs with
  | [.d (.int i), .d (.int j)] => Q (.d (.int (if j > i then j else i)))
  | _ => False
def mMin (xs : List DV) (Q : MQ) : Prop := match xs with
  | [.d (.int i), .d (.int j)] => Q (.d (.int (if j < i then j else i)))
  | _ => False
def mStrI (xs : List DV) (Q : MQ) : Prop := match xs with
  | [.d (.int i)] => i.natAbs.log2 < 1920 ∧ Q (.d (.str (Str.ofString (toString i))))
  | _ => False
def intsOf : List PyData → Option (List Int)
  | [] => some []
  | .int i :: r => (intsOf r).map (i :: ·)
  | _ :: _ => none
def strsOf : List PyData → Option (List Str)
  | [] => some []
  | .str z :: r => (strsOf r).map (z :: ·)
  | _ :: _ => none
def mSum (xs : List DV) (Q : MQ) : Prop := match xs with
  | [.l _ _ ys] => match intsOf ys with
    | some ns => Q (.d (.int ns.sum))
    | none => False
  | _ => False
def isiD : PyData → String → Option Bool
  | .none, n => kitB "NoneType" n
  | .bool _, n => kitB "bool" n
  | .int _, n => kitB "int" n
  | .str _, n => kitB "str" n
  | .tuple _, n => kitB "tuple" n
  | _, _ => none
def mIsi (xs : List DV) (Q : MQ) : Prop := match xs with
  | [.d x, .v (.ty n)] => ∃ b, isiD x n = some b ∧ Q (.d (.bool b))
  | _ => False
def mSetT (xs : List DV) (Q : MQ) : Prop := match xs with
  | [.d (.tuple ys)] => match strsOf ys with
    | some zs => zs.length + 1 < scanBound ∧ Q (.s true true (once zs))
    | none => False
  | _ => False
def mSortT (xs : List DV) (Q : MQ) : Prop := match xs with
  | [.s _ _ ks] => ∀ ys : List Str, ys.Perm ks → sortedS ys = true → Q (.l true true (ys.map .str))
  | _ => False
def mSortS (xs : List DV) (Q : MQ) : Prop := match xs with
  | [.l _ _ ys] => match strsOf ys with
    | some zs => zs.length < 64 ∧ ∀ us : List Str, us.Perm zs → sortedS us = true → Q (.l true true (us.map .str))
    | none => False
  | _ => False
/-! ### dicts -/
def valD (kvs : List (Key × PyData)) (k : Key) : Option PyData := (kvs.find? fun kv => decide (kv.1 = k)).map (·.2)
def valB {β : Type} (kvs : List (Key × β)) (k : Key) : Option β := (kvs.find? fun kv => decide (kv.1 = k)).map (·.2)
def mDNew (_ : Env) (Q : MQ) : Prop := Q (.k true true [])
def mDGet (md mk : ME) (ε : Env) (Q : MQ) : Prop := md ε fun d => mk ε fun x => match d, x with
  | .k _ _ kvs, .d y => match keyD y with
    | some k => match valD kvs k with
      | some v => Q (.d v)
      | none => False
    | none => False
  | .fk kvs, .d y => match keyD y with
    | some k => match valD kvs k with
      | some v => Q (.d v)
      | none => False
    | none => False
  | .fr rs, .d y => match keyD y with
    | some k => match valB rs k with
      | some none => Q (.d .none)
      | some (some kvs) => Q (.fk kvs)
      | none => False
    | none => False
  | _, _ => False
def mDIn0 (mk md : ME) (ε : Env) (R : Bool → Prop) : Prop := mk ε fun x => md ε fun d => match d, x with
  | .k _ _ kvs, .d y => match keyD y with
    | some k => R (valD kvs k).isSome
    | none => False
  | _, _ => False
def mDIn (neg : Bool) (mk md : ME) (ε : Env) (Q : MQ) : Prop := sgn neg Q (mDIn0 mk md ε)
/-- no key can be it -/
def missD : PyData → Bool
  | .none => true
  | .tuple xs => xs.all fun x => (keyD x).isSome
  | _ => false
/-- d.get(k, x) -/
def mGetC (md mk mx : ME) (ε : Env) (Q : MQ) : Prop := md ε fun d => match d with
  | .k _ _ kvs => mk ε fun x => mx ε fun z => match x, z with
    | .d y, .d z => match keyD y with
      | some k => Q (.d ((valD kvs k).getD z))
      | none => missD y = true ∧ Q (.d z)
    | _, _ => False
  | _ => False
/-! ### texts with parts -/
abbrev MJ := Str → Env → (Str → Prop) → Prop
def mJs : List ME → MJ
  | [], acc, _, Q => Q acc
  | m :: ms, acc, ε, Q => m ε fun dv => match dv with
    | .d (.str y) => (acc ++ y).length ≤ sizeLine ∧ mJs ms (acc ++ y) ε Q
    | _ => False
def mJoined (ms : List ME) (ε : Env) (Q : MQ) : Prop := mJs ms Str.empty ε fun z => Q (.d (.str z))
def mFmt (me : ME) (ε : Env) (Q : MQ) : Prop := me ε fun dv => match dv with
  | .d (.str y) => y.length ≤ sizeLine ∧ Q (.d (.str y))
  | .d (.int i) => i.natAbs.log2 < 1920 ∧ Q (.d (.str (Str.ofString (toString i))))
  | _ => False
def mChain (r r' : DV → DV → MQ → Prop) (ma mb mc : ME) (ε : Env) (Q : MQ) : Prop := ma ε fun x => mb ε fun y => r x y fun z => match z with
  | .d (.bool k) => Cnd k (mc ε fun u => r' y u Q) (Q (.d (.bool false)))
  | _ => False
section
variable {w : World} {K : PySem.W.Frag} {te ta tb tc : TE} {me ma mb mc : ME} {tt tu : TT} {mt mu : MT} {tr tk : TA} {mr mk : MA} {to tp : TO} {mo mp : MO}
theorem do_no : DO w K tNoPart mNoPart := fun T F σ H ε Q Qm r h q => q none H Keep.refl r.t1 h
theorem do_part (he : DE w K te me) : DO w K (tPart te) (mPart me) := fun T F σ H ε Q Qm r h q =>
  he T F σ H ε _ _ r h fun dv v H1 c h1 => by
    split at h1
    · exact ⟨_, dp_int c.rv.1, q _ H1 c.k c.t h1⟩
    · exact h1.elim
theorem de_sl {rr : V → Option Int → Option Int → Hp → VK → Prop} {mrr : DV → Option Int → Option Int → MQ → Prop} (hr : DSl w K rr mrr) (he : DE w K te me) (h1 : DO w K to mo) (h2 : DO w K tp mp) : DE w K (tSl rr te to tp) (mSl mrr me mo mp) := fun T F σ H ε Q Qm r h q =>
  he T F σ H ε _ _ r h fun dv v H1 c h3 => h1 T F σ H1 ε _ _ (c.rel r) h3 fun l H2 k2 t2 h4 => h2 T F σ H2 ε _ _ ((c.rel r).go k2 t2) h4 fun u H3 k3 t3 h5 =>
    hr T H3 v dv l u _ _ t3 (c.rv.keep c.t (k2.trans k3)) h5 fun dw x H4 c4 h6 => q _ _ _ (.after (c.k.trans (k2.trans k3)) t3 c4) h6
theorem dpAll_drop {H : Hp} : ∀ {vs : List V} {xs : List PyData} (n : Nat), DpAll K H vs xs → DpAll K H (vs.drop n) (xs.drop n)
  | _, _, 0, h => by simpa using h
  | _, _, n + 1, .nil => by simpa using DpAll.nil
  | _, _, n + 1, .cons a b => by simpa using dpAll_drop n b
theorem dpAll_take {H : Hp} : ∀ {vs : List V} {xs : List PyData} (n : Nat), DpAll K H vs xs → DpAll K H (vs.take n) (xs.take n)
  | _, _, 0, h => by simpa using DpAll.nil
  | _, _, n + 1, .nil => by simpa using DpAll.nil
  | _, _, n + 1, .cons a b => by simpa using DpAll.cons a (dpAll_take n b)
theorem cut_dp {H : Hp} {vs : List V} {xs : List PyData} {lo hi : Option Int} (h : DpAll K H vs xs) : DpAll K H (cutV vs lo hi) (cutD xs lo hi) := by
  unfold cutV cutD
  rw [h.len]
  exact dpAll_take _ (dpAll_drop _ h)
theorem cut_mem {xs : List PyData} {lo hi : Option Int} {x : PyData} (h : x ∈ cutD xs lo hi) : x ∈ xs := List.mem_of_mem_drop (List.mem_of_mem_take h)
theorem dsl_T : DSl w K (rSlA K) mSlT := by
  intro T H x dx lo hi Q Qm t hx h q
  unfold mSlT at h
  split at h
  · rename_i xs
    obtain ⟨a, vs, rfl, hs, ha⟩ := dp_tup hx.1
    refine ⟨a, vs, rfl, hs, fun e => ?_, fun _ r nr => q _ _ _ (came_tup t nr (cut_dp ha) fun x m => pd_in hx.2 x (cut_mem m)) h⟩
    have e2 : cutD xs lo hi = xs := by
      unfold cutD
      rw [ha.len] at e
      rw [e.1, e.2]; simp
    rw [e2] at h
    exact q _ _ H (pl t hx.1 hx.2) h
  · exact h.elim
theorem dsl_L : DSl w K (rSlL K) mSlL := by
  intro T H x dx lo hi Q Qm t hx h q
  unfold mSlL at h
  split at h
  · obtain ⟨a, vs, rfl, h1, h2, h3, _⟩ := hx
    exact ⟨a, vs, rfl, sqL h1, fun p hp => q _ _ _ (came_lst t hp (cut_dp h2) fun x m => h3 x (cut_mem m)) h⟩
  · exact h.elim
theorem dsl_S : DSl w K rSlS mSlS := by
  intro T H x dx lo hi Q Qm t hx h q
  unfold mSlS at h
  split at h
  · rename_i z
    refine ⟨z, dp_str hx.1, h.1, q _ _ H (pl t (.str _) (pd_str (strOk_of fun c m => strOk_mem hx.2.2 ?_))) h.2⟩
    have m2 : c ∈ (z.cps.toList.drop (HT.sIx z.length 0 lo)).take (HT.sIx z.length z.length hi - HT.sIx z.length 0 lo) := by simpa [cutS] using m
    exact List.mem_of_mem_drop (List.mem_of_mem_take m2)
  · exact h.elim
/-! built-ins -/
theorem dc_len : DC w K (rLenQ K) mLenQ := by
  intro T H vs dvs Q Qm t p h q
  unfold mLenQ at h
  split at h
  · split at h
    · rename_i x _ ys e
      obtain ⟨v, rfl, h2⟩ := p1 p
      obtain ⟨a, us, rfl, hs, ha, _⟩ := items_of h2 e
      exact ⟨a, us, rfl, hs, by rw [ha.len]; exact q _ _ H (pl t (.int _) (pd_int _)) h⟩
    · exact h.elim
  · exact h.elim
theorem dc_lenS : DC w K rLenT mLenS := by
  intro T H vs dvs Q Qm t p h q
  unfold mLenS at h
  split at h
  · obtain ⟨v, rfl, h2⟩ := p1 p
    exact ⟨_, by rw [dp_str h2.1], h.1, q _ _ H (pl t (.int _) (pd_int _)) h.2⟩
  · exact h.elim
theorem dc_list : DC w K (rListQ K) mList := by
  intro T H vs dvs Q Qm t p h q
  unfold mList at h
  split at h
  · split at h
    · rename_i x _ ys e
      obtain ⟨v, rfl, h2⟩ := p1 p
      obtain ⟨a, us, rfl, hs, ha, px⟩ := items_of h2 e
      exact ⟨a, us, rfl, hs, fun l hl => q _ _ _ (came_lst t hl ha px) h⟩
    · exact h.elim
  · exact h.elim
theorem dc_tuple : DC w K (rTupQ K) mTuple := by
  intro T H vs dvs Q Qm t p h q
  unfold mTuple at h
  split at h
  · split at h
    · rename_i x _ ys e
      obtain ⟨v, rfl, h2⟩ := p1 p
      obtain ⟨a, us, rfl, hs, ha, px⟩ := items_of h2 e
      refine ⟨a, us, rfl, ?_⟩
      rcases hs with hs | hs
      · exact .inl ⟨hs, fun l hl => q _ _ _ (came_tup t hl ha px) h⟩
      · exact .inr ⟨hs, q _ _ H (pl t (.tup hs ha) (pd_tup px)) h⟩
    · exact h.elim
  · exact h.elim
theorem dc_int : DC w K rInt1 mInt1 := by
  intro T H vs dvs Q Qm t p h q
  unfold mInt1 at h
  split at h
  · obtain ⟨v, rfl, h2⟩ := p1 p
    exact ⟨_, by rw [dp_int h2.1], q _ _ H (pl t (.int _) (pd_int _)) h⟩
  · exact h.elim
theorem dc_intB : DC w K rIntB mIntB := by
  intro T H vs dvs Q Qm t p h q
  unfold mIntB at h
  split at h
  · obtain ⟨v, rfl, h2⟩ := p1 p
    exact ⟨_, by rw [dp_bool h2.1], q _ _ H (pl t (.int _) (pd_int _)) h⟩
  · exact h.elim
theorem dc_abs : DC w K rAbs1 mAbs := by
  intro T H vs dvs Q Qm t p h q
  unfold mAbs at h
  split at h
  · obtain ⟨v, rfl, h2⟩ := p1 p
    exact ⟨_, by rw [dp_int h2.1], q _ _ H (pl t (.int _) (pd_int _)) h⟩
  · exact h.elim
theorem dc_max : DC w K rMaxI mMax := by
  intro T H vs dvs Q Qm t p h q
  unfold mMax at h
  split at h
  · obtain ⟨v, u, rfl, h2, h3⟩ := p2 p
    exact ⟨_, _, by rw [dp_int h2.1, dp_int h3.1], q _ _ H (pl t (.int _) (pd_int _)) h⟩
  · exact h.elim
theorem dc_min : DC w K rMinI mMin := by
  intro T H vs dvs Q Qm t p h q
  unfold mMin at h
  split at h
  · obtain ⟨v, u, rfl, h2, h3⟩ := p2 p
    exact ⟨_, _, by rw [dp_int h2.1, dp_int h3.1], q _ _ H (pl t (.int _) (pd_int _)) h⟩
  · exact h.elim
theorem strOk_ofString (s : String) : PyData.strOk (Str.ofString s) = true := by
  refine strOk_of fun c m => ?_
  have m2 : c ∈ s.toList.map Char.toNat := by
    have : (Str.ofString s).cps.toList = s.toList.map Char.toNat := by rw [Str.ofString_eq_toList]
    rw [← this]; exact m
  obtain ⟨x, _, rfl⟩ := List.mem_map.mp m2
  have := x.valid
  rcases this with h | h
  · show x.val.toNat < _
    omega
  · show x.val.toNat < _
    omega
theorem dc_str : DC w K rStrI mStrI := by
  intro T H vs dvs Q Qm t p h q
  unfold mStrI at h
  split at h
  · obtain ⟨v, rfl, h2⟩ := p1 p
    exact ⟨_, by rw [dp_int h2.1], h.1, q _ _ H (pl t (.str _) (pd_str (strOk_ofString _))) h.2⟩
  · exact h.elim
theorem ints_of {H : Hp} : ∀ {vs : List V} {xs : List PyData} {ns : List Int}, DpAll K H vs xs → intsOf xs = some ns → vs = ns.map V.int
  | _, [], _, .nil, e => by cases e; rfl
  | _, .int i :: r, _, .cons a b, e => by
    unfold intsOf at e
    obtain ⟨ms, e2, rfl⟩ := Option.map_eq_some_iff.mp e
    rw [dp_int a, ints_of b e2]; rfl
theorem strs_of {H : Hp} : ∀ {vs : List V} {xs : List PyData} {ns : List Str}, DpAll K H vs xs → strsOf xs = some ns → vs = ns.map V.str ∧ xs = ns.map PyData.str
  | _, [], _, .nil, e => by cases e; exact ⟨rfl, rfl⟩
  | _, .str i :: r, _, .cons a b, e => by
    unfold strsOf at e
    obtain ⟨ms, e2, rfl⟩ := Option.map_eq_some_iff.mp e
    obtain ⟨x, y⟩ := strs_of b e2
    rw [dp_str a, x, y]; exact ⟨rfl, rfl⟩
theorem strsOf_map : ∀ zs : List Str, strsOf (zs.map .str) = some zs
  | [] => rfl
  | z :: r => by
    show (strsOf (r.map .str)).map (z :: ·) = _
    rw [strsOf_map r]; rfl
theorem intsOf_map : ∀ zs : List Int, intsOf (zs.map .int) = some zs
  | [] => rfl
  | z :: r => by
    show (intsOf (r.map .int)).map (z :: ·) = _
    rw [intsOf_map r]; rfl
theorem dc_sum : DC w K (rSum K) mSum := by
  intro T H vs dvs Q Qm t p h q
  unfold mSum at h
  split at h
  · split at h
    · rename_i ns e
      obtain ⟨v, rfl, a, us, rfl, h1, h2, _⟩ := p1 p
      have := ints_of h2 e
      subst this
      exact ⟨a, ns, rfl, sqL h1, q _ _ H (pl t (.int _) (pd_int _)) h⟩
    · exact h.elim
  · exact h.elim
theorem dc_isi : DC w K (rIsi K) mIsi := by
  intro T H vs dvs Q Qm t p h q
  unfold mIsi at h
  split at h
  · rename_i x n
    obtain ⟨v, u, rfl, h2, h3⟩ := p2 p
    obtain ⟨b, e, h⟩ := h
    have e3 : u = .ty n := h3
    subst e3
    have fin := q _ _ H (pl t (.bl b) (pd_bool b)) h
    cases x <;> unfold isiD at e
    · rw [dp_none h2.1]; exact l_isi (.base .non) e fin
    · rw [dp_bool h2.1]; exact l_isi (.base (.bl _)) e fin
    · rw [dp_int h2.1]; exact l_isi (.base (.int _)) e fin
    · rw [dp_str h2.1]; exact l_isi (.base (.str _)) e fin
    · cases e
    · obtain ⟨a, us, rfl, hs, _⟩ := dp_tup h2.1
      exact l_isi (ty_T hs) e fin
    · cases e
  · exact h.elim
theorem once_sub {zs : List Str} {z : Str} (h : z ∈ once zs) : z ∈ zs := (once_mem zs z).mp h
theorem came_set {T : Tp} {H : Hp} {p : Addr} {ks : List Str} (t : TOk T H) (hp : H p = none) (o : ∀ z ∈ ks, PyData.strOk z = true) : Came w K T H (upd H p (TSO w p ks)) (.ref p) (.s true true ks) :=
  ⟨Keep.new hp, t.new hp, (show RV w K T _ (.ref p) (.s true true ks) from ⟨p, rfl, upd_same, o⟩), (fun _ a e => by cases e; exact hp), fun _ => rfl⟩
theorem dc_set : DC w K (rSetT K w) mSetT := by
  intro T H vs dvs Q Qm t p h q
  unfold mSetT at h
  split at h
  · split at h
    · rename_i zs e
      obtain ⟨v, rfl, h2⟩ := p1 p
      obtain ⟨a, us, rfl, hs, ha⟩ := dp_tup h2.1
      obtain ⟨e1, e2⟩ := strs_of ha e
      subst e1
      refine ⟨a, zs, rfl, hs, h.1, fun p hp => q _ _ _ (came_set t hp fun z m => ?_) h.2⟩
      have := pd_in h2.2 (.str z) (by rw [e2]; exact List.mem_map.mpr ⟨z, once_sub m, rfl⟩)
      exact this.2
    · exact h.elim
  · exact h.elim
theorem dc_sortT : DC w K (rSortT w) mSortT := by
  intro T H vs dvs Q Qm t p h q
  unfold mSortT at h
  split at h
  · obtain ⟨v, rfl, a, rfl, h1, h2⟩ := p1 p
    exact ⟨a, _, rfl, h1, fun ys p pm so hp => q _ _ _ (came_lst t hp (dp_texts ys) fun x m => by
      obtain ⟨z, mz, rfl⟩ := List.mem_map.mp m
      exact pd_str (h2 z (pm.mem_iff.mp mz))) (h ys pm so)⟩
  · exact h.elim
theorem dc_sortS : DC w K (rSortedS K) mSortS := by
  intro T H vs dvs Q Qm t p h q
  unfold mSortS at h
  split at h
  · split at h
    · rename_i zs e
      obtain ⟨v, rfl, a, us, rfl, h1, h2, h3, _⟩ := p1 p
      obtain ⟨e1, e2⟩ := strs_of h2 e
      subst e1
      exact ⟨a, zs, rfl, sqL h1, h.1, fun ys p pm so hp => q _ _ _ (came_lst t hp (dp_texts ys) fun x m => by
        obtain ⟨z, mz, rfl⟩ := List.mem_map.mp m
        exact h3 _ (by rw [e2]; exact List.mem_map.mpr ⟨z, pm.mem_iff.mp mz, rfl⟩)) (h.2 ys pm so)⟩
    · exact h.elim
  · exact h.elim
/-! dicts -/
theorem kv_val {H : Hp} {k : Key} : ∀ {ws : List (Key × V)} {kvs : List (Key × PyData)}, KvAt K H ws kvs → (∀ x, valD kvs k = some x → ∃ v, valV ws k = some v ∧ Dp K H v x ∧ Pd x) ∧ (valD kvs k = none → valV ws k = none) := by
  intro ws kvs h
  unfold KvAt at h
  induction h with
  | nil => exact ⟨(fun x e => nomatch e), fun _ => rfl⟩
  | cons a _ ih =>
    unfold valD valV at *
    rename_i p q _ _ _
    rw [List.find?_cons, List.find?_cons, a.1]
    by_cases e : q.1 = k
    · rw [decide_eq_true e]
      exact ⟨fun x e2 => by cases e2; exact ⟨_, rfl, a.2⟩, (fun e2 => nomatch e2)⟩
    · rw [decide_eq_false e]; exact ih
theorem rs_val {H : Hp} {k : Key} : ∀ {ws : List (Key × V)} {rs : List (Key × Option (List (Key × PyData)))}, RsAt K H ws rs → ∀ q, valB rs k = some q → ∃ v, valV ws k = some v ∧ RwAt K H v q := by
  intro ws rs h
  unfold RsAt at h
  induction h with
  | nil => exact fun q e => nomatch e
  | cons a _ ih =>
    unfold valB valV at *
    rename_i p q _ _ _
    rw [List.find?_cons, List.find?_cons, a.1]
    by_cases e : q.1 = k
    · rw [decide_eq_true e]
      exact fun x e2 => by cases e2; exact ⟨_, rfl, a.2⟩
    · rw [decide_eq_false e]; exact ih
theorem de_dnew : DE w K tDNewK mDNew := fun T F σ H ε Q Qm r h q p hp => q (.k true true []) _ _ ⟨Keep.new hp, r.t1.new hp, (show RV w K T _ (.ref p) (.k true true []) from ⟨p, [], rfl, upd_same, .nil⟩), (fun _ a e => by cases e; exact hp), fun _ => rfl⟩ h
theorem de_dget (hd : DE w K ta ma) (hk : DE w K tb mb) : DE w K (tDGet ta tb) (mDGet ma mb) := fun T F σ H ε Q Qm r h q =>
  hd T F σ H ε _ _ r h fun dv v H1 c h1 => hk T F σ H1 ε _ _ (c.rel r) h1 fun dw u H2 c2 h2 => by
    split at h2
    · split at h2
      · rename_i k ek
        split at h2
        · rename_i x ex
          obtain ⟨a, ws, rfl, h3, h4⟩ := c.rv.keep c.t c2.k
          obtain ⟨y, hy, dy, py⟩ := (kv_val h4).1 x ex
          refine ⟨a, y, rfl, ?_, q _ _ H2 (.after (c.k.trans c2.k) c2.t (pl c2.t dy py)) h2⟩
          rw [keyD_v c2.rv.1 ek, ← hy]
          exact DGet.k h3
        · exact h2.elim
      · exact h2.elim
    · split at h2
      · rename_i k ek
        split at h2
        · rename_i x ex
          obtain ⟨a, o, ws, rfl, h3, h4⟩ := c.rv.keep c.t c2.k
          obtain ⟨y, hy, dy, py⟩ := (kv_val h4).1 x ex
          exact ⟨a, y, rfl, .inl ⟨ws, k, .inr ⟨o, h3⟩, keyD_v c2.rv.1 ek, hy.symm⟩, q _ _ H2 (.after (c.k.trans c2.k) c2.t (pl c2.t dy py)) h2⟩
        · exact h2.elim
      · exact h2.elim
    · split at h2
      · rename_i k ek
        split at h2
        · rename_i ex
          obtain ⟨a, o, ws, rfl, h3, h4⟩ := c.rv.keep c.t c2.k
          obtain ⟨y, hy, dy⟩ := rs_val h4 _ ex
          have dy : y = .non := dy
          subst dy
          exact ⟨a, _, rfl, .inl ⟨ws, k, .inr ⟨o, h3⟩, keyD_v c2.rv.1 ek, hy.symm⟩, q _ _ H2 (.after (c.k.trans c2.k) c2.t (pl c2.t .non pd_none)) h2⟩
        · rename_i kvs ex
          obtain ⟨a, o, ws, rfl, h3, h4⟩ := c.rv.keep c.t c2.k
          obtain ⟨y, hy, dy⟩ := rs_val h4 _ ex
          exact ⟨a, y, rfl, .inl ⟨ws, k, .inr ⟨o, h3⟩, keyD_v c2.rv.1 ek, hy.symm⟩, q (.fk kvs) _ H2 ⟨c.k.trans c2.k, c2.t, dy, (fun n => nomatch n), (fun n => nomatch n)⟩ h2⟩
        · exact h2.elim
      · exact h2.elim
    · exact h2.elim
theorem kv_some {H : Hp} {k : Key} {ws : List (Key × V)} {kvs : List (Key × PyData)} (h : KvAt K H ws kvs) : (valV ws k).isSome = (valD kvs k).isSome := by
  cases e : valD kvs k with
  | none => rw [(kv_val h).2 e]; rfl
  | some x => obtain ⟨v, hv, _⟩ := (kv_val h).1 x e; rw [hv]; rfl
theorem de_din (hk : DE w K tb mb) (hd : DE w K ta ma) : DE w K (tDIn tb ta) (mDIn false mb ma) := fun T F σ H ε Q Qm r h q =>
  hk T F σ H ε _ _ r h fun dv v H1 c h1 => hd T F σ H1 ε _ _ (c.rel r) h1 fun dw u H2 c2 h2 => by
    split at h2
    · split at h2
      · rename_i k ek
        obtain ⟨a, ws, rfl, h3, h4⟩ := c2.rv
        refine ⟨a, valV ws k, rfl, by rw [keyD_v c.rv.1 ek]; exact DGet.k h3, ?_⟩
        rw [kv_some h4]
        exact q _ _ H2 (.after (c.k.trans c2.k) c2.t (pl c2.t (.bl _) (pd_bool _))) h2
      · exact h2.elim
    · exact h2.elim
theorem de_dnotin (hk : DE w K tb mb) (hd : DE w K ta ma) : DE w K (tDNotIn tb ta) (mDIn true mb ma) := fun T F σ H ε Q Qm r h q =>
  hk T F σ H ε _ _ r h fun dv v H1 c h1 => hd T F σ H1 ε _ _ (c.rel r) h1 fun dw u H2 c2 h2 => by
    split at h2
    · split at h2
      · rename_i k ek
        obtain ⟨a, ws, rfl, h3, h4⟩ := c2.rv
        refine ⟨a, valV ws k, rfl, by rw [keyD_v c.rv.1 ek]; exact DGet.k h3, ?_⟩
        rw [kv_some h4]
        exact q _ _ H2 (.after (c.k.trans c2.k) c2.t (pl c2.t (.bl _) (pd_bool _))) h2
      · exact h2.elim
    · exact h2.elim
theorem keys_of {H : Hp} : ∀ {vs : List V} {xs : List PyData}, DpAll K H vs xs → (xs.all fun x => (keyD x).isSome) = true → ∃ ks : List Key, vs = ks.map kV
  | _, _, .nil, _ => ⟨[], rfl⟩
  | _, _, .cons a b, h => by
    rw [List.all_cons, Bool.and_eq_true] at h
    obtain ⟨ks, e⟩ := keys_of b h.2
    obtain ⟨k, ek⟩ := Option.isSome_iff_exists.mp h.1
    exact ⟨k :: ks, by rw [e, keyD_v a ek]; rfl⟩
theorem de_getC (hd : DE w K ta ma) (hk : DE w K tb mb) (hx : DE w K tc mc) : DE w K (tGetC K ta tb tc) (mGetC ma mb mc) := fun T F σ H ε Q Qm r h q =>
  hd T F σ H ε _ _ r h fun dv v H1 c h1 => by
    split at h1
    · rename_i o n kvs
      have rv := c.rv
      obtain ⟨a, ws, rfl, h3, h4⟩ := rv
      refine ⟨a, rfl, .inl ⟨ws, .inl h3⟩, ?_⟩
      refine hk T F σ H1 ε _ _ (c.rel r) h1 fun dw u H2 c2 h2 => hx T F σ H2 ε _ _ (c2.rel (c.rel r)) h2 fun dz z H3 c3 h5 => ?_
      obtain ⟨a', ws', ea, h6, h7⟩ := (c.rv.keep c.t (c2.k.trans c3.k))
      cases ea
      have kk := c.k.trans (c2.k.trans c3.k)
      split at h5
      · rename_i y zz
        have yv := c2.rv.keep c2.t c3.k
        split at h5
        · rename_i k ek
          refine ⟨valV ws' k, .inl (by rw [keyD_v yv.1 ek]; exact DGet.k h6), ?_⟩
          cases e : valD kvs k with
          | none =>
            rw [e] at h5
            rw [(kv_val h7).2 e]
            exact q _ _ H3 (.after kk c3.t (pl c3.t c3.rv.1 c3.rv.2)) h5
          | some x =>
            rw [e] at h5
            obtain ⟨v, hv, dv, pv⟩ := (kv_val h7).1 x e
            rw [hv]
            exact q _ _ H3 (.after kk c3.t (pl c3.t dv pv)) h5
        · refine ⟨none, .inr ⟨⟨ws', .inl h6⟩, rfl, ?_⟩, q _ _ H3 (.after kk c3.t (pl c3.t c3.rv.1 c3.rv.2)) h5.2⟩
          have m := h5.1
          unfold missD at m
          split at m
          · exact .inl (dp_none yv.1)
          · obtain ⟨p, us, rfl, hs, ha⟩ := dp_tup yv.1
            obtain ⟨ks, e⟩ := keys_of ha m
            exact .inr ⟨p, ks, rfl, e ▸ hs⟩
          · cases m
      · exact h5.elim
    · exact h1.elim
/-! texts with parts -/
def DJ (w : World) (K : PySem.W.Frag) : List TE → List ME → Prop := Paired (DE w K)
theorem dj_nil : DJ w K [] [] := .nil
theorem dj_cons {ts : List TE} {ms : List ME} (h : DE w K te me) (r : DJ w K ts ms) : DJ w K (te :: ts) (me :: ms) := .cons h r
theorem js_run {ts : List TE} {ms : List ME} (j : DJ w K ts ms) : ∀ (acc : Str) T F σ H ε (Q : Str → Hp → Prop) (Qm : Str → Prop), PyData.strOk acc = true → Rel w K T F σ H ε → mJs ms acc ε Qm → (∀ z H', PyData.strOk z = true → Keep T H H' → TOk T H' → Qm z → Q z H') → tJs ts acc σ H Q := by
  unfold DJ at j
  induction j with
  | nil => intro acc T F σ H ε Q Qm o r h q; exact q acc H o Keep.refl r.t1 h
  | cons a _ ih =>
    intro acc T F σ H ε Q Qm o r h q
    refine a T F σ H ε _ _ r h fun dv v H1 c h1 => ?_
    split at h1
    · rename_i y
      exact ⟨y, dp_str c.rv.1, h1.1, ih _ T F σ H1 ε _ _ (strOk_app o c.rv.2.2) (c.rel r) h1.2 fun z H2 oz k t h2 => q z H2 oz (c.k.trans k) t h2⟩
    · exact h1.elim
theorem de_joined {ts : List TE} {ms : List ME} (j : DJ w K ts ms) : DE w K (fun σ H Q => tJs ts Str.empty σ H fun out H1 => Q (.str out) H1) (mJoined ms) := fun T F σ H ε Q Qm r h q =>
  js_run j Str.empty T F σ H ε _ _ (by decide +kernel) r h fun z H1 oz k t h1 => q _ _ H1 (.plain k t ⟨.str z, pd_str oz⟩) h1
theorem de_fmt (he : DE w K te me) : DE w K (tFmt te) (mFmt me) := fun T F σ H ε Q Qm r h q =>
  he T F σ H ε _ _ r h fun dv v H1 c h1 => by
    split at h1
    · exact .inl ⟨_, dp_str c.rv.1, h1.1, q _ _ H1 (.plain c.k c.t ⟨.str _, c.rv.2⟩) h1.2⟩
    · exact .inr ⟨_, dp_int c.rv.1, h1.1, q _ _ H1 (.plain c.k c.t ⟨.str _, pd_str (strOk_ofString _)⟩) h1.2⟩
    · exact h1.elim
theorem de_chain {rr rs : R2} {mrr mrs : DV → DV → MQ → Prop} (h1 : DR w K rr mrr) (h2 : DR w K rs mrs) (ha : DE w K ta ma) (hb : DE w K tb mb) (hc : DE w K tc mc) : DE w K (tChain rr rs ta tb tc) (mChain mrr mrs ma mb mc) := fun T F σ H ε Q Qm r h q =>
  ha T F σ H ε _ _ r h fun dv v H1 c h3 => hb T F σ H1 ε _ _ (c.rel r) h3 fun dw u H2 c2 h4 => h1 T H2 v u dv dw _ _ c2.t (c.rv.keep c.t c2.k) c2.rv h4 fun dx x H3 c3 h5 => by
    split at h5
    · rename_i k
      have kk := c.k.trans (c2.k.trans c3.k)
      refine ⟨k, rv_bool c3.rv, ?_⟩
      cases k with
      | true => exact hc T F σ H3 ε _ _ (c3.rel (c2.rel (c.rel r))) h5.h fun dy y H4 c4 h6 => h2 T H4 u y dw dy _ _ c4.t (c2.rv.keep c2.t (c3.k.trans c4.k)) c4.rv h6 fun dz z H5 c5 h7 => q _ _ _ (.after (kk.trans c4.k) c4.t c5) h7
      | false => exact q _ _ H3 (.plain kk c3.t ⟨.bl _, pd_bool _⟩) h5.h
    · exact h5.elim
/-! ### a def -/
theorem body_m {n : Nat} {N : List Str} {mF : List DV → MQ → Prop} {ts : TS} {ms : MS} {vs : List V} {H : Hp} {Q : VK} {E : XK} (h : spM w K n mF vs H Q E) (D : DS w K ts ms) (hn : n ≤ N.length)
    (hm : ∀ dvs Qm, mF dvs Qm → ms { nx := fun _ => Qm (.d .none), rt := Qm } (dvs.map some ++ List.replicate (N.length - n) none)) : ts { nx := fun _ H' => Q .non H', rt := Q } (L2.start N vs) H := by
  obtain ⟨hl, T, dvs, Qm, t, p, sh, hF, q⟩ := h
  have ld : dvs.length = n := by rw [← hl]; exact (Paired.length p).symm
  have e : L2.start N vs = vs.map some ++ List.replicate (N.length - n) none := by unfold L2.start; rw [hl]
  have at' : ∀ (i : Nat) (dv : DV), (dvs.map some ++ List.replicate (N.length - n) none)[i]? = some (some dv) → dvs[i]? = some dv := fun i dv h => by
    by_cases l : i < dvs.length
    · rw [List.getElem?_append_left (by rw [List.length_map]; exact l), List.getElem?_map] at h
      obtain ⟨x, hx, e⟩ := Option.map_eq_some_iff.mp h
      cases e; exact hx
    · rw [List.getElem?_append_right (by rw [List.length_map]; omega)] at h
      have := List.mem_replicate.mp (List.mem_of_getElem? h)
      cases this.2
  have get : ∀ {vs : List V} {dvs : List DV} (_ : Paired (RV w K T H) vs dvs) {i : Nat} {dv : DV}, dvs[i]? = some dv → ∃ v, vs[i]? = some v ∧ RV w K T H v dv := by
    intro vs dvs p
    induction p with
    | nil => intro i dv h; simp at h
    | cons a _ ih =>
      intro i dv h
      cases i with
      | zero => simp at h; subst h; exact ⟨_, rfl, a⟩
      | succ i => simpa using ih (by simpa using h)
  have fl : ∀ (i : Nat) (dv : DV), (dvs.map some ++ List.replicate (N.length - n) none)[i]? = some (some dv) → dv.new = false ∧ dv.own = false := fun i dv h => by
    have := sh dv (List.mem_of_getElem? (at' i dv h))
    cases dv <;> first | exact ⟨rfl, rfl⟩ | (cases this; exact ⟨rfl, rfl⟩)
  refine D T ⟨H, H, []⟩ (L2.start N vs) H (dvs.map some ++ List.replicate (N.length - n) none) { nx := fun _ => Qm (.d .none), rt := Qm } _ ?_ (hm dvs Qm hF) ⟨fun σ H' ⟨ε, r, h⟩ => q _ _ H' (.plain r.keep r.t1 ⟨.non, pd_none⟩) h, fun v H' ⟨dv, c, _, _, h⟩ => q dv v H' c h, fun σ H' ⟨ε, r, h⟩ => h.elim, fun σ H' ⟨ε, r, h⟩ => h.elim⟩
  exact {
    keep := Keep.refl
    t0 := t
    t1 := t
    tk := TK.refl
    fz := fun _ m => nomatch m
    val := fun i dv h => by
      have h2 := at' i dv h
      obtain ⟨v, hv, rv⟩ := get p h2
      refine ⟨v, ?_, rv⟩
      have l : i < vs.length := (List.getElem?_eq_some_iff.mp hv).1
      rw [e, List.getElem?_append_left (by rw [List.length_map]; exact l), List.getElem?_map, hv]; rfl
    new := fun i dv a h n => by rw [(fl i dv h).1] at n; cases n
    own := fun i dv a h n => by rw [(fl i dv h).2] at n; cases n
    one := fun i j di dj a h n => by rw [(fl i di h).2] at n; cases n
    len := by rw [e, List.length_append, List.length_append, List.length_map, List.length_map, ld, hl, List.length_replicate, List.length_replicate] }
end
end Mx
namespace Mx
open PySem PySem.Spec PyProof.Rows L2 Tq
variable [Tb]
section
variable {w : World} {K : PySem.W.Frag}
/-- the body of a law, behind the tape -/
theorem law_m {ts : TS} {ms : MS} {H : Hp} {t a : Addr} {x : Option V} {k : Nat} {E : Ends} (D : DS w K ts ms) (hT : Tape H t a) (hTb : ∀ P ∈ Tb.ls, Gx.TabE H P) (hE : ∀ H', (∀ P ∈ Tb.ls, Gx.TabE H' P) → E.rt (.bl true) H')
    (hm : ms { nx := fun _ => False, rt := fun dv => dv = .d (.bool true) } (none :: some .tp :: List.replicate k none)) : ts E (x :: some (.ref t) :: List.replicate k none) H := by
  have tok : TOk (some (t, a)) H := ⟨fun p hp => by cases hp; exact hT, hTb⟩
  have at' : ∀ (i : Nat) (dv : DV), (none :: some DV.tp :: List.replicate k (none : Option DV))[i]? = some (some dv) → i = 1 ∧ dv = .tp := fun i dv h => by
    match i with
    | 0 => cases h
    | 1 => cases h; exact ⟨rfl, rfl⟩
    | i + 2 =>
      have h2 : (List.replicate k (none : Option DV))[i]? = some (some dv) := h
      have := List.mem_replicate.mp (List.mem_of_getElem? h2)
      cases this.2
  refine D (some (t, a)) ⟨H, H, []⟩ _ H (none :: some .tp :: List.replicate k none) _ E ?_ hm ⟨fun σ H' ⟨ε, r, h⟩ => h.elim, fun v H' ⟨dv, c, _, _, h⟩ => ?_, fun σ H' ⟨ε, r, h⟩ => h.elim, fun σ H' ⟨ε, r, h⟩ => h.elim⟩
  · exact {
      keep := Keep.refl
      t0 := tok
      t1 := tok
      tk := TK.refl
      fz := fun _ m => nomatch m
      val := fun i dv h => by
        obtain ⟨rfl, rfl⟩ := at' i dv h
        exact ⟨_, rfl, (t, a), rfl, rfl⟩
      new := fun i dv b h n => by obtain ⟨_, rfl⟩ := at' i dv h; cases n
      own := fun i dv b h n => by obtain ⟨_, rfl⟩ := at' i dv h; cases n
      one := fun i j di dj b h n => by obtain ⟨_, rfl⟩ := at' i di h; cases n
      len := by simp }
  · subst h
    rw [rv_bool c.rv]
    exact hE H' c.t.2
/-- a def's promise, said of plain data -/
theorem imp_m {P : Program} {mg : Str → Option Value} {base : Heap} {CX : CXT} {k n : Nat} {f : Addr} {fd : FuncData} {ps : List Str} {sp : Sp} {mF : List DV → MQ → Prop} (F : FnOk P w K mg base CX k f fd ps sp)
    (h : ∀ T H vs dvs Qm (Q : VK) (E : XK), TOk T H → Paired (RV w K T H) vs dvs → mF dvs Qm → (∀ dv v H', Came w K T H H' v dv → Qm dv → Q v H') → sp vs H Q E) : FnOk P w K mg base CX k f fd ps (spM w K n mF) :=
  F.imp fun vs H Q E ⟨_, T, dvs, Qm, t, p, _, m, q⟩ => h T H vs dvs Qm Q E t p m q
/-- behind a def that drew -/
theorem TOk.but {t a : Addr} {H H' : Hp} (t0 : TOk (some (t, a)) H) (b : But t H H') (T : Tape H' t a) : TOk (some (t, a)) H' :=
  ⟨fun q hq => by cases hq; exact T, fun P hP => b P _ (fun e => by
    obtain ⟨x, y⟩ := tape_lst (t0.1 _ rfl)
    have z := t0.2 P hP
    rw [e] at z
    rw [show H t = _ from z] at y
    cases y) (t0.2 P hP)⟩
theorem came_but {t a : Addr} {H H' : Hp} {v : V} {x : PyData} (t0 : TOk (some (t, a)) H) (b : But t H H') (T : Tape H' t a) (h : Dp K H' v x) (p : Pd x) : Came w K (some (t, a)) H H' v (.d x) :=
  .plain (Keep.of_but b) (t0.but b T) ⟨h, p⟩
end
end Mx
namespace Mx
open PySem PySem.Spec PyProof.Rows L2 Tq
variable [Tb]
theorem no_m {w : World} {K : PySem.W.Frag} {n : Nat} {mF : List DV → MQ → Prop} {vs : List V} {H : Hp} {Q : VK} {E : XK} (h : spM w K n mF vs H Q E) (no : ∀ dvs Qm, mF dvs Qm → False) : False := by
  obtain ⟨_, _, dvs, Qm, _, _, _, m, _⟩ := h
  exact no dvs Qm m
theorem k_zipA {X : Cx} {K : PySem.W.Frag} {e e2 : Expr} {ta : TA} {p pos tpos : Pos} {elts : List Expr} {kk : Nat} (h : X.K = K) (hg : Gl X "zip") (hm : X.mg "zip" = none) (ha : PA X [e, e2] ta)
    (hs : starEach [e, e2] X.env = (false, eval e X.env) :: starEach [e2] X.env := by rfl) (hpl : (backTo pos (starEach [e2] X.env)).any (·.1) = false := by rfl) :
    PI X (.Tuple elts kk tpos) (.Call (.Name "zip" p) [e, e2] [] pos) (RZ.iZipA K ta) := h ▸ RZ.pi_zipA hg hm ha hs hpl
/-- a new list of texts, behind a def that drew -/
theorem came_lstB {w : World} {K : PySem.W.Frag} {t a d : Addr} {H H' : Hp} {vs : List V} {xs : List PyData} (t0 : TOk (some (t, a)) H) (b : But t H H') (T : Tape H' t a) (n : H d = none) (h : H' d = some (.lst vs)) (g : DpAll K H' vs xs) (p : ∀ x ∈ xs, Pd x) : Came w K (some (t, a)) H H' (.ref d) (.l true true xs) where
  k := Keep.of_but b
  t := t0.but b T
  rv := ⟨d, vs, rfl, h, g, p, fun q hq e => by
    cases hq
    obtain ⟨x, y⟩ := tape_lst (t0.1 _ rfl)
    rw [e, y] at n; cases n⟩
  n _ a e := by cases e; exact n
  o _ := rfl
theorem came_lstS {w : World} {K : PySem.W.Frag} {T : Tp} {d : Addr} {H H' : Hp} {vs : List V} {xs : List PyData} (t : TOk T H) (b : Same H H') (n : H d = none) (h : H' d = some (.lst vs)) (g : DpAll K H' vs xs) (p : ∀ x ∈ xs, Pd x) : Came w K T H H' (.ref d) (.l true true xs) where
  k := Keep.of_same b
  t := t.same b
  rv := ⟨d, vs, rfl, h, g, p, ne_tape t n⟩
  n _ a e := by cases e; exact n
  o _ := rfl
theorem came_s {w : World} {K : PySem.W.Frag} {T : Tp} {H H' : Hp} {v : V} {x : PyData} (t : TOk T H) (b : Same H H') (h : Dp K H' v x) (p : Pd x) : Came w K T H H' v (.d x) := .plain (Keep.of_same b) (t.same b) ⟨h, p⟩
end Mx
namespace Mx
open PySem PySem.Spec PyProof.Rows L2 Tq
variable [Tb]
/-! dict(t) of a plain tuple of pairs, which stays one -/
section
variable {X : Cx} {w : World} {K : PySem.W.Frag} {tr : TA} {mr : MA}
def rDictQ (K : PySem.W.Frag) : List V → Hp → VK → Prop := fun xs H Q => ∃ (a : Addr) (ps : List Addr) (kvs : List (Key × V)), xs = [.ref a] ∧ H a = some (TPO a (ps.map V.ref)) ∧ Paired (fun p kv => SqT K H p [kV kv.1, kv.2]) ps kvs ∧
    ∀ p, H p = none → Q (.ref p) (upd H p (.dK (mergeK [] kvs)))
theorem c_dictQ (hcalm : X.calm = true) : CallR X (.type "dict") (rDictQ X.K) := by
  intro pins s σ H xs us Q I r q
  obtain ⟨a, ps, kvs, ex, ha, hp, q⟩ := q
  subst ex
  obtain ⟨u, eu, rx⟩ := vals1 r
  subst eu
  cases rx
  obtain ⟨⟨hz, its, rv, n, hg⟩, _⟩ := I.hok a _ ha
  have ei := refs_at rv
  subst ei
  rw [List.length_map] at hz
  obtain ⟨prs, vps, rel, hl, hl2, hpr⟩ := pairs_at I hp
  have P := PairArg.tuple (prog := X.prog) (w := X.w) a (ps.map Value.ref).toArray (fun j => ps[j]?.getD 0) vps
  refine PySem.call_dict_pairs (knd := mixKind X.prog X.w) (kvs := prs) P (I.ok.hd hcalm) ⟨⟨_, _, hg, rfl, rfl, rfl⟩, by simp [hl2], fun j k v e => ?_⟩ ⟨hl.trans hl2.symm, fun j k v e => ?_⟩ (by rw [hl2]; exact hz) fun h' tk hd' kp => ?_
  · obtain ⟨b, key, e1, e2, e3, e4⟩ := hpr j k v e
    simp only [e1, Option.getD_some]
    exact ⟨by simp [e1], e2⟩
  · obtain ⟨b, key, e1, e2, e3, e4⟩ := hpr j k v e
    exact ⟨key, e3, e4⟩
  · have hm : (s.heap.objs.size == sysModules) = false := beq_eq_false_iff_ne.mpr (Nat.ne_of_gt I.big)
    have hlen : (mergeK [] kvs).length ≤ sizeLine := by
      refine Nat.le_trans (length_mergeK kvs []) ?_
      rw [List.length_nil, Nat.zero_add, rel.length, hl]
      exact hz
    exact ⟨.ref s.heap.objs.size, upd H s.heap.objs.size (.dK (mergeK [] kvs)), I.laid (t' := tk) (fun b o e => kp b o (by simp) e) (Nat.le_refl _) (show ObjOk X.prog X.w _ _ _ (.dK (mergeK [] kvs)) from ⟨hlen, hm, merged [] prs, KV.merge rel .nil, hd'⟩), rfl, q _ (I.hok.fresh (Nat.le_refl _))⟩
theorem k_dictQ (h : X.K = K) (hc : X.calm = true) : CallR X (.type "dict") (rDictQ K) := h ▸ c_dictQ hc
def pairsOf : List PyData → Option (List (Key × PyData))
  | [] => some []
  | .tuple [k, v] :: r => match keyD k with
    | some k => match pairsOf r with
      | some l => some ((k, v) :: l)
      | none => none
    | none => none
  | _ :: _ => none
def mergeD (kvs more : List (Key × PyData)) : List (Key × PyData) := more.foldl (fun acc kv => putD acc kv.1 kv.2) kvs
def mDictQ (xs : List DV) (Q : MQ) : Prop := match xs with
  | [.pt _ ys] => match pairsOf ys with
    | some kvs => Q (.k true true (mergeD [] kvs))
    | none => False
  | _ => False
theorem pairs_of {H : Hp} : ∀ {vs : List V} {xs : List PyData} {kvs : List (Key × PyData)}, DpAll K H vs xs → (∀ x ∈ xs, Pd x) → pairsOf xs = some kvs → ∃ (ps : List Addr) (ws : List (Key × V)), vs = ps.map V.ref ∧ Paired (fun p (kv : Key × V) => SqT K H p [kV kv.1, kv.2]) ps ws ∧ KvAt K H ws kvs
  | _, [], _, .nil, _, e => by cases e; exact ⟨[], [], rfl, .nil, .nil⟩
  | _, x :: r, kvs, .cons a b, p, e => by
    unfold pairsOf at e
    split at e
    · rename_i e1; cases e1
    · rename_i k v r' e1
      cases e1
      split at e
      · rename_i key ek
        split at e
        · rename_i l el
          cases e
          obtain ⟨ps, ws, rfl, h1, h2⟩ := pairs_of b (fun x m => p x (List.mem_cons_of_mem _ m)) el
          obtain ⟨q, ys, rfl, hs, ha⟩ := dp_tup a
          have px := pd_in (p _ List.mem_cons_self)
          cases ha with
          | cons y1 ha => cases ha with
            | cons y2 ha =>
              cases ha
              rw [keyD_v y1 ek] at hs
              exact ⟨q :: ps, (key, _) :: ws, rfl, .cons hs h1, .cons ⟨rfl, y2, px v (by simp)⟩ h2⟩
        · cases e
      · cases e
    · cases e
theorem kv_merge {H : Hp} : ∀ {ws : List (Key × V)} {kvs : List (Key × PyData)} {us : List (Key × V)} {ls : List (Key × PyData)}, KvAt K H ws kvs → KvAt K H us ls → KvAt K H (mergeK us ws) (mergeD ls kvs) := by
  intro ws kvs us ls h
  unfold KvAt at h
  induction h generalizing us ls with
  | nil => intro g; exact g
  | cons a _ ih =>
    intro g
    rename_i p q _ _ _
    show KvAt K H (mergeK (putK us p.1 p.2) _) (mergeD (putD ls q.1 q.2) _)
    rw [a.1]
    exact ih (kv_put g a.2.1 a.2.2)
theorem dc_dictQ : DC w K (rDictQ K) mDictQ := by
  intro T H vs dvs Q Qm t p h q
  unfold mDictQ at h
  split at h
  · split at h
    · rename_i kvs e
      obtain ⟨v, rfl, a, us, rfl, h1, h2, h3⟩ := p1 p
      obtain ⟨ps, ws, rfl, g1, g2⟩ := pairs_of h2 h3 e
      refine ⟨a, ps, ws, rfl, h1, g1, fun p hp => q (.k true true (mergeD [] kvs)) _ _ ⟨Keep.new hp, t.new hp, ?_, (fun _ a e => by cases e; exact hp), fun _ => rfl⟩ h⟩
      exact (show RV w K T _ (.ref p) (.k true true (mergeD [] kvs)) from ⟨p, _, rfl, upd_same, (kv_merge g2 .nil).keep (TK.new hp)⟩)
    · exact h.elim
  · exact h.elim
/-- tuple(list), plain -/
def mTupP (xs : List DV) (Q : MQ) : Prop := match xs with
  | [.l _ _ ys] => Q (.pt true ys)
  | _ => False
theorem came_pt {T : Tp} {H : Hp} {p : Addr} {vs : List V} {xs : List PyData} (t : TOk T H) (hp : H p = none) (a : DpAll K H vs xs) (b : ∀ x ∈ xs, Pd x) : Came w K T H (upd H p (TPO p vs)) (.ref p) (.pt true xs) :=
  ⟨Keep.new hp, t.new hp, (show RV w K T _ (.ref p) (.pt true xs) from ⟨p, vs, rfl, upd_same, DpAll.keep (TK.of_same (new_same hp)) _ _ (pu_all b) a, b⟩), (fun _ a e => by cases e; exact hp), fun q => nomatch q⟩
theorem dc_tupP : DC w K (rTupP K) mTupP := by
  intro T H vs dvs Q Qm t p h q
  unfold mTupP at h
  split at h
  · obtain ⟨v, rfl, a, us, rfl, h1, h2, h3, _⟩ := p1 p
    exact ⟨a, us, rfl, sqL h1, fun l hl => q _ _ _ (came_pt t hl h2 h3) h⟩
  · exact h.elim
def mTupD (ma : MA) (ε : Env) (Q : MQ) : Prop := ma ε fun dvs => match dsOf dvs with
  | some xs => xs.length ≤ sizeLine ∧ Q (.pt true xs)
  | none => False
theorem de_tupP (h : DA w K tr mr) : DE w K (tTupP tr) (mTupD mr) := by
  intro T F σ H ε Q Qm r hm q
  refine h T F σ H ε _ _ r hm fun dvs vs H1 k t p h1 => ?_
  split at h1
  · rename_i xs e
    obtain ⟨a, b⟩ := ds_of e (L2.Paired.mapP p fun _ _ x => x.1)
    exact ⟨by rw [a.len]; exact h1.1, fun p hp => q _ _ _ (.after k t (came_pt t hp a b)) h1.2⟩
  · exact h1.elim
end
/-! displays with a star -/
section
variable {w : World} {K : PySem.W.Frag} {te : TE} {me : ME} {tr : TA}
abbrev MD := Env → (List PyData → Prop) → Prop
def mdNil (_ : Env) (Q : List PyData → Prop) : Prop := Q []
def mdCons (me : ME) (mr : MD) (ε : Env) (Q : List PyData → Prop) : Prop := me ε fun dv => match dv with
  | .d x => mr ε fun xs => Q (x :: xs)
  | _ => False
def mdStar (me : ME) (mr : MD) (ε : Env) (Q : List PyData → Prop) : Prop := me ε fun dv => match dv.items with
  | some ys => mr ε fun xs => Q (ys ++ xs)
  | none => False
def mTupS (md : MD) (ε : Env) (Q : MQ) : Prop := md ε fun xs => xs.length ≤ sizeLine ∧ Q (.d (.tuple xs))
def DD (w : World) (K : PySem.W.Frag) (ta : TA) (ma : MD) : Prop := ∀ T F σ H ε (Q : List V → Hp → Prop) (Qm : List PyData → Prop), Rel w K T F σ H ε → ma ε Qm → (∀ xs vs H', Keep T H H' → TOk T H' → DpAll K H' vs xs → (∀ x ∈ xs, Pd x) → Qm xs → Q vs H') → ta σ H Q
theorem dd_nil : DD w K tNil mdNil := fun T F σ H ε Q Qm r h q => q [] [] H Keep.refl r.t1 .nil (fun _ m => nomatch m) h
theorem dd_cons {mr : MD} (h1 : DE w K te me) (h2 : DD w K tr mr) : DD w K (tCons te tr) (mdCons me mr) := fun T F σ H ε Q Qm r h q =>
  h1 T F σ H ε _ _ r h fun dv v H1 c h3 => by
    split at h3
    · rename_i x
      refine h2 T F σ H1 ε _ _ (c.rel r) h3 fun xs vs H2 k t d p h4 => q (x :: xs) (v :: vs) H2 (c.k.trans k) t (.cons (c.rv.keep c.t k).1 d) (fun y m => ?_) h4
      rcases List.mem_cons.mp m with rfl | m
      · exact c.rv.2
      · exact p y m
    · exact h3.elim
theorem dd_star {mr : MD} (h1 : DE w K te me) (h2 : DD w K tr mr) : DD w K (StX.tStar K te tr) (mdStar me mr) := fun T F σ H ε Q Qm r h q =>
  h1 T F σ H ε _ _ r h fun dv v H1 c h3 => by
    split at h3
    · rename_i ys e
      obtain ⟨a, us, rfl, hs, ha, px⟩ := items_of c.rv e
      refine ⟨a, us, rfl, hs.symm, ?_⟩
      refine h2 T F σ H1 ε _ _ (c.rel r) h3 fun xs vs H2 k t d p h4 => q (ys ++ xs) (us ++ vs) H2 (c.k.trans k) t (dpAll_app (DpAll.keep (k.tk c.t) _ _ (pu_all px) ha) d) (fun y m => (List.mem_append.mp m).elim (px y) (p y)) h4
    · exact h3.elim
theorem de_tupS {md : MD} (h : DD w K tr md) : DE w K (tTup tr) (mTupS md) := fun T F σ H ε Q Qm r hm q =>
  h T F σ H ε _ _ r hm fun xs vs H1 k t d p h1 => ⟨by rw [d.len]; exact h1.1, fun a ha => q _ _ _ (.after k t (came_tup t ha d p)) h1.2⟩
theorem k_star {X : Cx} {e : Expr} {es : List Expr} {p : Pos} {t : TA} (h : X.K = K) (he : PE X e te) (hr : PA X es t) : PA X (.Starred e p :: es) (StX.tStar K te t) := h ▸ StX.pa_star he hr
end
end Mx
/-! words: the names of tables, columns and values -/
namespace Tq
open PySem PySem.Spec PyProof.Rows L2
/-- a sign of a name -/
def isM (c : Nat) : Prop := (97 ≤ c ∧ c ≤ 122) ∨ (48 ≤ c ∧ c ≤ 57) ∨ c = 95
instance (c : Nat) : Decidable (isM c) := by unfold isM; exact inferInstance
/-- a letter, then signs of a name -/
structure IsW (z : Str) : Prop where
  hd : ∃ c cs, z.cps.toList = c :: cs ∧ 97 ≤ c ∧ c ≤ 122
  all : ∀ c ∈ z.cps.toList, isM c
theorem IsW.app {a b : Str} (h : IsW a) (hb : ∀ c ∈ b.cps.toList, isM c) : IsW (a ++ b) := by
  refine ⟨?_, fun c hc => ?_⟩
  · obtain ⟨c, cs, e, l⟩ := h.hd
    exact ⟨c, cs ++ b.cps.toList, by rw [app_list, e]; rfl, l⟩
  · rw [app_list] at hc
    rcases List.mem_append.mp hc with hc | hc
    · exact h.all c hc
    · exact hb c hc
theorem scut_hi (z : Str) {n : Int} (h : 0 ≤ n) : (cutS z none (some n)).cps.toList = z.cps.toList.take n.toNat := by
  have e : HT.sIx z.length z.length (some n) = min n.toNat z.length := by
    show (if n < 0 then (n + (z.length : Int)).toNat else min n.toNat z.length) = _
    rw [if_neg (by omega)]
  have l : z.length = z.cps.toList.length := (Array.length_toList ..).symm
  unfold cutS
  rw [e, HT.sIx_none, List.drop_zero]
  show (List.take (min n.toNat z.length - 0) z.cps.toList).toArray.toList = _
  rw [Nat.sub_zero, l, List.toList_toArray]
  rcases Nat.le_total n.toNat z.cps.toList.length with g | g
  · rw [Nat.min_eq_left g]
  · rw [Nat.min_eq_right g, List.take_length, List.take_of_length_le g]
theorem len_list (z : Str) : z.length = z.cps.toList.length := (Array.length_toList ..).symm
theorem scut_len (z : Str) {n : Int} (h : 0 ≤ n) : (cutS z none (some n)).length ≤ n.toNat := by
  rw [len_list, scut_hi z h, List.length_take]; omega
theorem IsW.cut {z : Str} (h : IsW z) {n : Int} (g : 0 < n) : IsW (cutS z none (some n)) := by
  have e := scut_hi z (n := n) (by omega)
  refine ⟨?_, fun c hc => ?_⟩
  · obtain ⟨c, cs, e2, l⟩ := h.hd
    refine ⟨c, cs.take (n.toNat - 1), ?_, l⟩
    rw [e, e2]
    obtain ⟨k, hk⟩ : ∃ k, n.toNat = k + 1 := ⟨n.toNat - 1, by omega⟩
    rw [hk]; rfl
  · rw [e] at hc
    exact h.all c (List.mem_of_mem_take hc)
theorem scut_all {z : Str} (h : ∀ c ∈ z.cps.toList, isM c) {n : Int} (g : 0 ≤ n) : ∀ c ∈ (cutS z none (some n)).cps.toList, isM c := by
  intro c hc
  rw [scut_hi z g] at hc
  exact h c (List.mem_of_mem_take hc)
def reserved : List Str := ["table", "optional", "text", "null", "check", "and", "or", "not", "exists", "true", "false", "if", "then", "else", "drop", "when"]
theorem reserved_w : ∀ z ∈ reserved, (∀ c ∈ z.cps.toList, 97 ≤ c ∧ c ≤ 122) ∧ z.length ≤ 8 ∧ z.cps.toList ≠ [] := by decide +kernel
/-- a name: of one to twenty signs, not reserved -/
structure IsName (z : Str) : Prop where
  w : IsW z
  len : z.length ≤ 20
  free : z ∉ reserved
theorem IsName.ok {z : Str} (h : IsName z) : PyData.strOk z = true := by
  unfold PyData.strOk
  rw [← Array.all_toList, List.all_eq_true]
  intro c m
  have := h.w.all c m
  unfold isM at this
  exact decide_eq_true (by omega)
/-- the names that a fault in a word is replaced by -/
theorem nm_free (z : Str) (k : Nat) : nm z k ∉ reserved := by
  intro h
  have a := (reserved_w _ h).1
  have : (numS k).cps.toList ≠ [] := by
    rw [numS_list]
    intro e
    have := List.map_eq_nil_iff.mp e
    have l := Nat.length_toDigits_pos (b := 10) (n := k)
    rw [this] at l; cases l
  obtain ⟨c, cs, e⟩ := List.exists_cons_of_ne_nil this
  have b := numS_ok k c (by rw [e]; exact List.mem_cons_self)
  have := a c (by unfold nm; rw [app_list, e]; exact List.mem_append_right _ List.mem_cons_self)
  omega
theorem num_len2 {k : Nat} (h : k < 100) : (numS k).length ≤ 2 := toString_length_le (by omega) (by decide) (by omega)
theorem name_nm {z : Str} (h : IsW z) (l : z.length ≤ 18) {k : Nat} (g : k < 100) : IsName (nm z k) := by
  refine ⟨?_, ?_, nm_free z k⟩
  · exact h.app fun c hc => by have := numS_ok k c hc; unfold isM; omega
  · unfold nm
    rw [app_len]
    have := num_len2 g
    omega
theorem l_slS {z : Str} {lo hi : Option Int} {H : Hp} {Q : VK} (h : z.length ≤ sizeLine) (q : Q (.str (cutS z lo hi)) H) : rSlS (.str z) lo hi H Q := ⟨z, rfl, h, q⟩
end Tq
/-! tables [40], conditions and expressions as trees [41, 42] -/
namespace Tq
open PySem PySem.Spec PyProof.Rows L2
/-! ### a walk over a list or a tuple -/
section
variable {X : Cx} {K : PySem.W.Frag} {H : Hp} {tg e : Expr} {te : TE} {a : Addr} {xs : List V} {g : TG} {tb : TS} {D : Ends} {σ : L2.St}
def iLT (K : PySem.W.Frag) (te : TE) : TI := fun σ H R => iList K te σ H R ∨ iTup K te σ H R
theorem pi_lt (he : PE X e te) : PI X tg e (iLT X.K te) := ⟨fun pins s σ H R I h => h.elim (fun h => (pi_list he).run pins s σ H R I h) (fun h => (pi_tup he).run pins s σ H R I h)⟩
theorem k_piLT (h : X.K = K) (he : PE X e te) : PI X tg e (iLT K te) := h ▸ pi_lt he
theorem l_lt1 {R : It → Hp → Prop} (q : iList K te σ H R) : iLT K te σ H R := .inl q
theorem l_lt2 {R : It → Hp → Prop} (q : iTup K te σ H R) : iLT K te σ H R := .inr q
/-- the iterator of a list or a tuple -/
def IsIt (K : PySem.W.Frag) (H : Hp) (a : Addr) (xs : List V) (it : It) : Prop := it = Itl K a ∧ SqL K H a xs ∨ it = Itt K a ∧ SqT K H a xs
/-- what a walk over a needs, be it a list or a tuple -/
theorem l_ltv {i : Nat} {R : It → Hp → Prop} (hv : σ[i]? = some (some (.ref a))) (hq : Sq K H a xs) (q : ∀ it, IsIt K H a xs it → R it H) : iLT K (tVar i) σ H R := by
  rcases hq with h | h
  · exact .inl (l_ilist (l_var hv ⟨a, rfl, ⟨xs, h⟩, q _ (.inl ⟨rfl, h⟩)⟩))
  · exact .inr (l_itup (l_var hv ⟨a, rfl, ⟨xs, h⟩, q _ (.inr ⟨rfl, h⟩)⟩))
end
section
variable {K : PySem.W.Frag} {H : Hp} {a : Addr} {xs : List V} {g : TG} {tb : TS} {D : Ends} {σ : L2.St}
/-- the walk it ends well -/
abbrev Ends1 (g : TG) (tb : TS) (D : Ends) (σ : L2.St) (H : Hp) (it : It) : Prop :=
  ∃ W : Nat → Nat → L2.St → Hp → Prop, (∃ m, W 0 m σ H) ∧ ∀ i m σ H, W i m σ H → (it.stop i H ∧ D.nx σ H) ∨
    (it.go i H ∧ ∃ N : L2.St → Hp → Prop, (∀ σ' H', N σ' H' → ∃ m', m' < m ∧ W (i + 1) m' σ' H') ∧ ∀ x H', it.yld i H x H' → g x σ H' fun σ2 H2 => tb { D with nx := N, ct := N, bk := D.nx } σ2 H2)
theorem for_sq {it : It} (hit : IsIt K H a xs it) (Pv : Nat → L2.St → Hp → Prop) (h0 : Pv 0 σ H) (hk : ∀ i σ' H', Pv i σ' H' → Same H H')
    (hs : ∀ i x σ H, xs[i]? = some x → Pv i σ H → g x σ H fun σ2 H2 => tb { D with nx := Pv (i + 1), ct := Pv (i + 1), bk := D.nx } σ2 H2) (hd : ∀ σ H, Pv xs.length σ H → D.nx σ H) :
    Ends1 g tb D σ H it := by
  rcases hit with ⟨rfl, h⟩ | ⟨rfl, h⟩
  · exact for_list Pv h0 (fun i σ' H' _ p => (hk i σ' H' p).seq h) hs hd
  · exact for_tup Pv h0 (fun i σ' H' _ p => (hk i σ' H' p).seqT h) hs hd
end
section
variable {K : PySem.W.Frag} {H H1 : Hp} {a p c d : Addr} {xs ys zs : List V} {g : TG} {tt : TT} {te : TE} {vs : List Nat} {σ : L2.St} {Qd : Hp → Prop}
/-- what a walk over a part of a tuple needs -/
theorem l_lti {i : Nat} {k : Int} {R : It → Hp → Prop} (hv : σ[i]? = some (some (.ref p))) (hp : SqT K H p zs) (hz : atI zs k = some (.ref c)) (hq : Sq K H c ys) (q : ∀ it, IsIt K H c ys it → R it H) :
    iLT K (tOp (rIxT K) (tVar i) (tC (.int k))) σ H R := by
  rcases hq with h | h
  · exact .inl (l_ilist (l_op (l_var hv (l_c (l_ixT hp hz ⟨c, rfl, ⟨ys, h⟩, q _ (.inl ⟨rfl, h⟩)⟩)))))
  · exact .inr (l_itup (l_op (l_var hv (l_c (l_ixT hp hz ⟨c, rfl, ⟨ys, h⟩, q _ (.inr ⟨rfl, h⟩)⟩)))))
/-- the comprehension over it ends well -/
abbrev Ends2 (g : TG) (tt : TT) (te : TE) (vs : List Nat) (σ : L2.St) (H1 : Hp) (d : Addr) (Qd : Hp → Prop) (it : It) : Prop :=
  ∃ W : Nat → Nat → Hp → Prop, (∃ m, W 0 m (L2.upd H1 d (.lst []))) ∧ ∀ i m H, W i m H → (it.stop i H ∧ Qd H) ∨
    (it.go i H ∧ ∃ N : Hp → Prop, (∀ H', N H' → ∃ m', m' < m ∧ W (i + 1) m' H') ∧ ∀ x H', it.yld i H x H' → g x (wipe σ vs) H' fun σ2 H2 => wipe σ2 vs = wipe σ vs ∧ tt σ2 H2 fun b H3 =>
      if b = true then te σ2 H3 fun y H4 => ∃ acc, H4 d = some (.lst acc) ∧ acc.length < sizeLine ∧ N (L2.upd H4 d (.lst (acc ++ [y]))) else N H3)
theorem lc_sq {it : It} (hit : IsIt K H1 a xs it) (Pv : Nat → Hp → Prop) (h0 : Pv 0 (L2.upd H1 d (.lst []))) (hk : ∀ i H', Pv i H' → Same H1 H')
    (hs : ∀ i x H, xs[i]? = some x → Pv i H → g x (wipe σ vs) H fun σ2 H2 => wipe σ2 vs = wipe σ vs ∧ tt σ2 H2 fun b H3 =>
      if b = true then te σ2 H3 fun y H4 => ∃ acc, H4 d = some (.lst acc) ∧ acc.length < sizeLine ∧ Pv (i + 1) (L2.upd H4 d (.lst (acc ++ [y]))) else Pv (i + 1) H3) (hd : ∀ H, Pv xs.length H → Qd H) :
    Ends2 g tt te vs σ H1 d Qd it := by
  rcases hit with ⟨rfl, h⟩ | ⟨rfl, h⟩
  · exact lc_list Pv h0 (fun i H' _ q => (hk i H' q).seq h) hs hd
  · exact lc_tup Pv h0 (fun i H' _ q => (hk i H' q).seqT h) hs hd
end
/-! ### columns and tables -/
structure Col where
  name : Str
  kind : Option (List Str)
  nul : Bool
structure Tab where
  name : Str
  opt : Bool
  cols : List Col
def Col.kd (c : Col) : PyData := match c.kind with
  | none => .str "text"
  | some vs => .tuple (vs.map .str)
def Col.d (c : Col) : PyData := .tuple [.str c.name, c.kd, .bool c.nul]
def Tab.d (t : Tab) : PyData := .tuple [.str t.name, .bool t.opt, .tuple (t.cols.map Col.d)]
def tabsD (ts : List Tab) : PyData := .tuple (ts.map Tab.d)
def Col.isT (c : Col) : Bool := c.kind.isNone
/-- of a column: its names are names -/
structure Col.Ok (c : Col) : Prop where
  name : IsName c.name
  vals : ∀ vs, c.kind = some vs → vs ≠ [] ∧ vs.length ≤ 300 ∧ ∀ z ∈ vs, IsName z
structure Tab.Ok (t : Tab) : Prop where
  name : IsName t.name
  cols : ∀ c ∈ t.cols, c.Ok
  some : t.cols ≠ []
theorem kd_pu (c : Col) : Pu c.kd = true := by
  unfold Col.kd
  cases c.kind with
  | none => rfl
  | some vs => exact puAll_iff.mpr fun d m => by obtain ⟨z, _, rfl⟩ := List.mem_map.mp m; rfl
theorem col_pu (c : Col) : Pu c.d = true := puAll_iff.mpr fun d m => by
  rcases List.mem_cons.mp m with rfl | m
  · rfl
  · rcases List.mem_cons.mp m with rfl | m
    · exact kd_pu c
    · rw [List.mem_singleton.mp m]; rfl
theorem cols_pu (cs : List Col) : PuAll (cs.map Col.d) = true := puAll_iff.mpr fun d m => by
  obtain ⟨c, _, rfl⟩ := List.mem_map.mp m
  exact col_pu c
theorem tab_pu (t : Tab) : Pu t.d = true := puAll_iff.mpr fun d m => by
  rcases List.mem_cons.mp m with rfl | m
  · rfl
  · rcases List.mem_cons.mp m with rfl | m
    · rfl
    · rw [List.mem_singleton.mp m]; exact cols_pu t.cols
theorem tabs_pu (ts : List Tab) : Pu (tabsD ts) = true := puAll_iff.mpr fun d m => by
  obtain ⟨c, _, rfl⟩ := List.mem_map.mp m
  exact tab_pu c
section
variable {K : PySem.W.Frag} {H H' : Hp} {v x : V} {xs : List V} {Q : VK}
/-- a column stands in the heap -/
theorem dp_col {c : Col} (h : Dp K H v c.d) : ∃ (p : Addr) (k : V), v = .ref p ∧ SqT K H p [.str c.name, k, .bl c.nul] ∧ Dp K H k c.kd := by
  obtain ⟨p, xs, rfl, hs, ha⟩ := dp_tup h
  cases ha with
  | cons a ha =>
    cases ha with
    | cons b ha =>
      cases ha with
      | cons d ha =>
        cases ha
        rw [dp_str a, dp_bool d] at hs
        exact ⟨p, _, rfl, hs, b⟩
/-- a table, its columns in a list or in a tuple -/
def TabAt (K : PySem.W.Frag) (H : Hp) (x : V) (t : Tab) : Prop := ∃ (p c : Addr) (ys : List V), x = .ref p ∧ SqT K H p [.str t.name, .bl t.opt, .ref c] ∧ Sq K H c ys ∧ DpAll K H ys (t.cols.map Col.d)
def TabsAt (K : PySem.W.Frag) (H : Hp) (xs : List V) (ts : List Tab) : Prop := xs.length = ts.length ∧ ∀ (i : Nat) (x : V), xs[i]? = some x → ∃ t, ts[i]? = some t ∧ TabAt K H x t
theorem tabAt_of {t : Tab} (h : Dp K H v t.d) : TabAt K H v t := by
  obtain ⟨p, xs, rfl, hs, ha⟩ := dp_tup h
  cases ha with
  | cons a ha =>
    cases ha with
    | cons b ha =>
      cases ha with
      | cons d ha =>
        cases ha
        obtain ⟨c, ys, rfl, hs2, ha2⟩ := dp_tup d
        rw [dp_str a, dp_bool b] at hs
        exact ⟨p, c, ys, rfl, hs, .inr hs2, ha2⟩
theorem tabsAt_of {ts : List Tab} (h : DpAll K H xs (ts.map Tab.d)) : TabsAt K H xs ts := by
  refine ⟨by rw [h.len, List.length_map], fun i x hx => ?_⟩
  obtain ⟨d, hd, ht⟩ := h.at hx
  rw [List.getElem?_map] at hd
  obtain ⟨t, e, rfl⟩ := Option.map_eq_some_iff.mp hd
  exact ⟨t, e, tabAt_of ht⟩
theorem TabAt.same {t : Tab} (h : TabAt K H x t) (s : Same H H') : TabAt K H' x t := by
  obtain ⟨p, c, ys, rfl, h1, h2, h3⟩ := h
  exact ⟨p, c, ys, rfl, s.seqT h1, h2.same s, DpAll.keep (TK.of_same s) _ _ (cols_pu _) h3⟩
theorem TabsAt.same {ts : List Tab} (h : TabsAt K H xs ts) (s : Same H H') : TabsAt K H' xs ts :=
  ⟨h.1, fun i x hx => by obtain ⟨t, e, a⟩ := h.2 i x hx; exact ⟨t, e, a.same s⟩⟩
theorem TabsAt.snoc {ts : List Tab} {t : Tab} (h : TabsAt K H xs ts) (a : TabAt K H x t) : TabsAt K H (xs ++ [x]) (ts ++ [t]) := by
  refine ⟨by simp [h.1], fun i y hy => ?_⟩
  by_cases c : i < xs.length
  · rw [List.getElem?_append_left c] at hy
    obtain ⟨u, e, b⟩ := h.2 i y hy
    exact ⟨u, by rw [List.getElem?_append_left (by rw [← h.1]; exact c)]; exact e, b⟩
  · have c2 : i = xs.length := by
      have := (List.getElem?_eq_some_iff.mp hy).1
      simp at this; omega
    subst c2
    rw [List.getElem?_append_right (Nat.le_refl _), Nat.sub_self] at hy
    have e : x = y := by simpa using hy
    subst e
    exact ⟨t, by rw [List.getElem?_append_right (by rw [h.1]; exact Nat.le_refl _), h.1, Nat.sub_self]; rfl, a⟩
theorem kd_shaped {c : Col} (h : c.Ok) : SeqAt.shaped c.kd = true := by
  unfold Col.kd
  cases e : c.kind with
  | none => decide +kernel
  | some vs => exact shaped_texts fun z m => ((h.vals vs e).2.2 z m).ok
/-- column[1] == "text" -/
theorem l_eqText {c : Col} (h : Dp K H v c.kd) (o : c.Ok) (q : Q (.bl c.isT) H) : rEqD K v (.str "text") H Q := by
  refine ⟨c.kd, .str "text", h, .str _, kd_shaped o, by decide +kernel, ?_⟩
  have e : PyData.eqv c.kd (.str "text") = c.isT := by
    unfold Col.kd Col.isT
    cases c.kind with
    | none => decide +kernel
    | some vs => rfl
  rw [e]; exact q
theorem l_neText {c : Col} (h : Dp K H v c.kd) (o : c.Ok) (q : Q (.bl (!c.isT)) H) : rNeD K v (.str "text") H Q := by
  refine ⟨c.kd, .str "text", h, .str _, kd_shaped o, by decide +kernel, ?_⟩
  have e : PyData.eqv c.kd (.str "text") = c.isT := by
    unfold Col.kd Col.isT
    cases c.kind with
    | none => decide +kernel
    | some vs => rfl
  rw [e]; exact q
end
/-- the columns with texts, as the law lists them -/
def textual (ts : List Tab) : List (Str × Str) := ts.flatMap fun t => (t.cols.filter Col.isT).map fun c => (t.name, c.name)
def colN (ts : List Tab) : Nat := (ts.flatMap Tab.cols).length
theorem colN_cons (t : Tab) (ts : List Tab) : colN (t :: ts) = t.cols.length + colN ts := by unfold colN; rw [List.flatMap_cons, List.length_append]
theorem colN_snoc (ts : List Tab) (t : Tab) : colN (ts ++ [t]) = colN ts + t.cols.length := by unfold colN; simp
theorem colN_mem {ts : List Tab} {t : Tab} (h : t ∈ ts) : t.cols.length ≤ colN ts := by
  induction ts with
  | nil => cases h
  | cons u us ih =>
    rw [colN_cons]
    rcases List.mem_cons.mp h with rfl | h
    · omega
    · have := ih h; omega
theorem textual_cons (t : Tab) (ts : List Tab) : (textual (t :: ts)).length = (t.cols.filter Col.isT).length + (textual ts).length := by
  unfold textual; rw [List.flatMap_cons, List.length_append, List.length_map]
theorem textual_len (ts : List Tab) : (textual ts).length ≤ colN ts := by
  induction ts with
  | nil => exact Nat.le_refl _
  | cons t ts ih =>
    rw [textual_cons, colN_cons]
    have := List.length_filter_le Col.isT t.cols
    omega
theorem textual_take {ts : List Tab} {t : Tab} {i : Nat} (h : ts[i]? = some t) : (textual (ts.take (i + 1))).length = (textual (ts.take i)).length + (t.cols.filter Col.isT).length := by
  rw [List.take_add_one, h]
  unfold textual
  simp
theorem colN_take (ts : List Tab) (i : Nat) : colN (ts.take i) ≤ colN ts := by
  have e : colN ts = colN (ts.take i) + colN (ts.drop i) := by
    unfold colN
    rw [← List.length_append, ← List.flatMap_append, List.take_append_drop]
  omega
theorem Same.put {H H' : Hp} {p : Addr} {o : HO} (s : Same H H') (n : H p = none) : Same H (L2.upd H' p o) := fun b u h => by
  rw [upd_ne (ne_of_none h n)]; exact s b u h
theorem upd_self1 {H : Hp} {p : Addr} {o : HO} (h : H p = some o) : H = L2.upd H p o := by
  funext b
  unfold L2.upd
  split
  · rename_i e; rw [e]; exact h
  · rfl
/-- of tables that a law draws -/
structure TabsOk (Ts : List Tab) : Prop where
  ok : ∀ t ∈ Ts, t.Ok
  some : Ts ≠ []
  few : colN Ts ≤ 24
  len : Ts.length ≤ 8
  names : (Ts.map Tab.name).Nodup
  cols : ∀ t ∈ Ts, (t.cols.map Col.name).Nodup
theorem pick {n : Int} (ls : List Int) (lo hi : Int) (h : ∀ z ∈ ls, lo ≤ z ∧ z ≤ hi) (n0 : 0 ≤ n) (n1 : n < ls.length) : ∃ v, atI (ls.map V.int) n = some (V.int v) ∧ lo ≤ v ∧ v ≤ hi := by
  obtain ⟨z, e, m⟩ := atI_map (f := V.int) n0 n1
  exact ⟨z, e, h z (List.mem_of_getElem? m)⟩
theorem one_name : IsName "one" := ⟨⟨⟨_, _, rfl, by decide, by decide⟩, by decide +kernel⟩, by decide, by decide +kernel⟩
theorem only_name : IsName "only" := ⟨⟨⟨_, _, rfl, by decide, by decide⟩, by decide +kernel⟩, by decide, by decide +kernel⟩
theorem l_ifNN {b : Bool} {A B : Prop} (h1 : b = true → A) (h2 : b = false → B) : if (!(!b)) = true then A else B := by
  cases b
  · exact l_ifF (h2 rfl)
  · exact l_ifT (h1 rfl)
/-! ### conditions and expressions -/
inductive Opd where
  | cell (c : Cel)
  | col (t c : Str)
def Opd.d : Opd → PyData
  | .cell c => .tuple [.str "cell", c.d]
  | .col t c => .tuple [.str "column", .str t, .str c]
def Opd.Ok : Opd → Prop
  | .cell .null => True
  | .cell (.txt z) => IsText z
  | .cell (.val n) => IsName n
  | .col t c => IsName t ∧ IsName c
theorem opd_pu : ∀ o : Opd, Pu o.d = true
  | .cell .null => rfl
  | .cell (.txt _) => rfl
  | .cell (.val _) => rfl
  | .col _ _ => rfl
inductive Tr where
  | tru
  | fls
  | ex (t : Str)
  | cmp (e : Bool) (l r : Opd)
  | neg (a : Tr)
  | jn (c : Bool) (ps : List Tr)
  | op (o : Opd)
  | ite (ps : List (Tr × Tr)) (e : Tr)
mutual
def Tr.d : Tr → PyData
  | .tru => .tuple [.str "true"]
  | .fls => .tuple [.str "false"]
  | .ex t => .tuple [.str "exists", .str t]
  | .cmp e l r => .tuple [.str (if e then "=" else "!="), l.d, r.d]
  | .neg a => .tuple [.str "not", a.d]
  | .jn c ps => .tuple [.str (if c then "and" else "or"), .tuple (trsD ps)]
  | .op o => o.d
  | .ite ps e => .tuple [.str "if", .tuple (brsD ps), e.d]
def trsD : List Tr → List PyData
  | [] => []
  | t :: ts => t.d :: trsD ts
def brsD : List (Tr × Tr) → List PyData
  | [] => []
  | (a, b) :: r => .tuple [a.d, b.d] :: brsD r
end
theorem pu_tup {ds : List PyData} (h : ∀ d ∈ ds, Pu d = true) : Pu (.tuple ds) = true := puAll_iff.mpr h
mutual
theorem tr_pu : ∀ t : Tr, Pu t.d = true
  | .tru => rfl
  | .fls => rfl
  | .ex _ => rfl
  | .cmp _ l r => pu_tup fun d m => by
    rcases List.mem_cons.mp m with rfl | m
    · rfl
    · rcases List.mem_cons.mp m with rfl | m
      · exact opd_pu l
      · rw [List.mem_singleton.mp m]; exact opd_pu r
  | .neg a => pu_tup fun d m => by
    rcases List.mem_cons.mp m with rfl | m
    · rfl
    · rw [List.mem_singleton.mp m]; exact tr_pu a
  | .jn _ ps => pu_tup fun d m => by
    rcases List.mem_cons.mp m with rfl | m
    · rfl
    · rw [List.mem_singleton.mp m]; exact pu_tup (trs_pu ps)
  | .op o => opd_pu o
  | .ite ps e => pu_tup fun d m => by
    rcases List.mem_cons.mp m with rfl | m
    · rfl
    · rcases List.mem_cons.mp m with rfl | m
      · exact pu_tup (brs_pu ps)
      · rw [List.mem_singleton.mp m]; exact tr_pu e
theorem trs_pu : ∀ ts : List Tr, ∀ d ∈ trsD ts, Pu d = true
  | [], _, m => nomatch m
  | t :: ts, d, m => by
    rcases List.mem_cons.mp m with rfl | m
    · exact tr_pu t
    · exact trs_pu ts d m
theorem brs_pu : ∀ ts : List (Tr × Tr), ∀ d ∈ brsD ts, Pu d = true
  | [], _, m => nomatch m
  | (a, b) :: ts, d, m => by
    rcases List.mem_cons.mp m with rfl | m
    · exact pu_tup fun d m => by
        rcases List.mem_cons.mp m with rfl | m
        · exact tr_pu a
        · rw [List.mem_singleton.mp m]; exact tr_pu b
    · exact brs_pu ts d m
end
mutual
/-- its strings are names and texts, its lists are short -/
def Tr.Ok : Tr → Prop
  | .tru => True
  | .fls => True
  | .ex t => IsName t
  | .cmp _ l r => l.Ok ∧ r.Ok
  | .neg a => a.Ok
  | .jn _ ps => ps.length ≤ 100 ∧ trsOk ps
  | .op o => o.Ok
  | .ite ps e => ps.length ≤ 100 ∧ brsOk ps ∧ e.Ok
def trsOk : List Tr → Prop
  | [] => True
  | t :: ts => t.Ok ∧ trsOk ts
def brsOk : List (Tr × Tr) → Prop
  | [] => True
  | (a, b) :: r => a.Ok ∧ b.Ok ∧ brsOk r
end
mutual
/-- how deep it goes, its operands counted -/
def Tr.dep : Tr → Nat
  | .tru => 1
  | .fls => 1
  | .ex _ => 1
  | .cmp _ _ _ => 2
  | .neg a => a.dep + 1
  | .jn _ ps => trsDep ps + 1
  | .op _ => 1
  | .ite ps e => max (brsDep ps) e.dep + 1
def trsDep : List Tr → Nat
  | [] => 0
  | t :: ts => max t.dep (trsDep ts)
def brsDep : List (Tr × Tr) → Nat
  | [] => 0
  | (a, b) :: r => max (max a.dep b.dep) (brsDep r)
end
end Tq
/-! what the laws draw, as plain data -/
namespace Mx
open PySem PySem.Spec PyProof.Rows L2 Tq
variable [Tb]
theorem pd_text {z : Str} (h : IsText z) : Pd (.str z) := pd_str (strOk_text h)
theorem pd_name {z : Str} (h : IsName z) : Pd (.str z) := pd_str h.ok
theorem pd_mem {α : Type} {f : α → PyData} {l : List α} (h : ∀ x ∈ l, Pd (f x)) : ∀ d ∈ l.map f, Pd d := fun d m => by
  obtain ⟨x, hx, rfl⟩ := List.mem_map.mp m
  exact h x hx
theorem pd_cons {x : PyData} {xs : List PyData} (h : Pd x) (r : ∀ d ∈ xs, Pd d) : ∀ d ∈ x :: xs, Pd d := fun d m => by
  rcases List.mem_cons.mp m with rfl | m
  · exact h
  · exact r d m
theorem pd_nil : ∀ d ∈ ([] : List PyData), Pd d := fun _ m => nomatch m
theorem kd_pd {c : Col} (h : c.Ok) : Pd c.kd := by
  unfold Col.kd
  cases e : c.kind with
  | none => exact pd_str (by decide +kernel)
  | some vs => exact pd_tup (pd_mem fun z m => pd_name ((h.vals vs e).2.2 z m))
theorem col_pd {c : Col} (h : c.Ok) : Pd c.d := pd_tup (pd_cons (pd_name h.name) (pd_cons (kd_pd h) (pd_cons (pd_bool _) pd_nil)))
theorem tab_pd {t : Tab} (h : t.Ok) : Pd t.d := pd_tup (pd_cons (pd_name h.name) (pd_cons (pd_bool _) (pd_cons (pd_tup (pd_mem fun c m => col_pd (h.cols c m))) pd_nil)))
theorem tabs_pd {ts : List Tab} (h : ∀ t ∈ ts, t.Ok) : Pd (tabsD ts) := pd_tup (pd_mem fun t m => tab_pd (h t m))
theorem opd_pd {o : Opd} (h : o.Ok) : Pd o.d := by
  cases o with
  | cell c => cases c with
    | null => exact pd_tup (pd_cons (pd_str (by decide +kernel)) (pd_cons pd_none pd_nil))
    | txt z => exact pd_tup (pd_cons (pd_str (by decide +kernel)) (pd_cons (pd_text h) pd_nil))
    | val n => exact pd_tup (pd_cons (pd_str (by decide +kernel)) (pd_cons (pd_tup (pd_cons (pd_name h) pd_nil)) pd_nil))
  | col t c => exact pd_tup (pd_cons (pd_str (by decide +kernel)) (pd_cons (pd_name h.1) (pd_cons (pd_name h.2) pd_nil)))
mutual
theorem tr_pd : ∀ t : Tr, t.Ok → Pd t.d
  | .tru, _ => pd_tup (pd_cons (pd_str (by decide +kernel)) pd_nil)
  | .fls, _ => pd_tup (pd_cons (pd_str (by decide +kernel)) pd_nil)
  | .ex _, h => pd_tup (pd_cons (pd_str (by decide +kernel)) (pd_cons (pd_name h) pd_nil))
  | .cmp e l r, h => pd_tup (pd_cons (pd_str (by cases e <;> decide +kernel)) (pd_cons (opd_pd h.1) (pd_cons (opd_pd h.2) pd_nil)))
  | .neg a, h => pd_tup (pd_cons (pd_str (by decide +kernel)) (pd_cons (tr_pd a h) pd_nil))
  | .jn c ps, h => pd_tup (pd_cons (pd_str (by cases c <;> decide +kernel)) (pd_cons (pd_tup (trs_pd ps h.2)) pd_nil))
  | .op o, h => opd_pd h
  | .ite ps e, h => pd_tup (pd_cons (pd_str (by decide +kernel)) (pd_cons (pd_tup (brs_pd ps h.2.1)) (pd_cons (tr_pd e h.2.2) pd_nil)))
theorem trs_pd : ∀ ts : List Tr, trsOk ts → ∀ d ∈ trsD ts, Pd d
  | [], _ => pd_nil
  | t :: ts, h => pd_cons (tr_pd t h.1) (trs_pd ts h.2)
theorem brs_pd : ∀ ts : List (Tr × Tr), brsOk ts → ∀ d ∈ brsD ts, Pd d
  | [], _ => pd_nil
  | (a, b) :: ts, h => pd_cons (pd_tup (pd_cons (tr_pd a h.1) (pd_cons (tr_pd b h.2.1) pd_nil))) (brs_pd ts h.2.2)
end
theorem trsD_map : ∀ ts : List Tr, trsD ts = ts.map Tr.d
  | [] => rfl
  | t :: ts => by rw [List.map_cons, ← trsD_map ts]; rfl
theorem brsD_map : ∀ ts : List (Tr × Tr), brsD ts = ts.map fun p => .tuple [p.1.d, p.2.d]
  | [] => rfl
  | (a, b) :: ts => by rw [List.map_cons, ← brsD_map ts]; rfl
theorem trsOk_iff : ∀ ts : List Tr, trsOk ts ↔ ∀ t ∈ ts, t.Ok
  | [] => by simp [trsOk]
  | t :: ts => by rw [trsOk, trsOk_iff ts]; simp
theorem brsOk_iff : ∀ ts : List (Tr × Tr), brsOk ts ↔ ∀ p ∈ ts, p.1.Ok ∧ p.2.Ok
  | [] => by simp [brsOk]
  | (a, b) :: ts => by rw [brsOk, brsOk_iff ts]; simp [and_assoc]
theorem trsDep_le : ∀ {ts : List Tr} {n : Nat}, trsDep ts ≤ n ↔ ∀ t ∈ ts, t.dep ≤ n
  | [], n => by simp [trsDep]
  | t :: ts, n => by rw [trsDep, Nat.max_le, trsDep_le]; simp
theorem brsDep_le : ∀ {ts : List (Tr × Tr)} {n : Nat}, brsDep ts ≤ n ↔ ∀ p ∈ ts, p.1.dep ≤ n ∧ p.2.dep ≤ n
  | [], n => by simp [brsDep]
  | (a, b) :: ts, n => by rw [brsDep, Nat.max_le, Nat.max_le, brsDep_le]; simp
/-- what a draw from the tape is worth -/
def fDraw : List DV → MQ → Prop := fun dvs Q => ∃ m : Int, dvs = [.tp, .d (.int m)] ∧ m < 1000000000000 ∧ ∀ n : Int, 0 ≤ n → n < max m 1 → Q (.d (.int n))
def fText : List DV → MQ → Prop := fun dvs Q => dvs = [.tp] ∧ ∀ z, IsText z → Q (.d (.str z))
abbrev sL (zs : List Str) : List PyData := zs.map .str
def fTexts : List DV → MQ → Prop := fun dvs Q => ∃ (m : Int) (tk : List Str), dvs = [.tp, .d (.int m), .l false false (sL tk)] ∧ 0 ≤ m ∧ m ≤ 40 ∧ tk.length ≤ 40 ∧
  ∀ ts : List Str, ts.length = m.toNat → ts.Nodup → (∀ z ∈ ts, z ∉ tk) → (∀ z ∈ ts, IsText z) → Q (.l true true (sL ts))
def fWords : List DV → MQ → Prop := fun dvs Q => ∃ (m : Int) (tk : List Str), dvs = [.tp, .d (.int m), .l false false (sL tk)] ∧ 0 ≤ m ∧ m ≤ 40 ∧ tk.length ≤ 40 ∧
  ∀ ts : List Str, ts.length = m.toNat → ts.Nodup → (∀ z ∈ ts, z ∉ tk) → (∀ z ∈ ts, IsName z) → Q (.l true true (sL ts))
def fTables : List DV → MQ → Prop := fun dvs Q => ∃ mo m wd : Int, dvs = [.tp, .d (.int mo), .d (.int m), .d (.int wd)] ∧ 0 ≤ m ∧ m ≤ 1000000 ∧ ∀ Ts, TabsOk Ts → Q (.d (tabsD Ts))
/-- of tables: as far as names go -/
structure TbOk (Ts : List Tab) : Prop where
  ok : ∀ t ∈ Ts, t.Ok
  few : colN Ts ≤ 24
  some : Ts ≠ []
  len : Ts.length ≤ 8
  names : (Ts.map Tab.name).Nodup
  cols : ∀ t ∈ Ts, (t.cols.map Col.name).Nodup
theorem _root_.Tq.TabsOk.tb {Ts : List Tab} (h : TabsOk Ts) : TbOk Ts := ⟨h.ok, h.few, h.some, h.len, h.names, h.cols⟩
def fValueWords : List DV → MQ → Prop := fun dvs Q => ∃ Ts, dvs = [.d (tabsD Ts)] ∧ (∀ t ∈ Ts, ∀ c ∈ t.cols, c.Ok) ∧ colN Ts ≤ 1000 ∧ ∀ ws : List Str, ws ≠ [] → ws.length ≤ 4001 → (∀ z ∈ ws, IsName z) → Q (.l true true (sL ws))
/-- a column of the kind -/
def HasCol (Ts : List Tab) (tx : Bool) (t c : Str) : Prop := ∃ T ∈ Ts, T.name = t ∧ ∃ C ∈ T.cols, C.name = c ∧ C.isT = tx
/-- an operand over these texts and values -/
def _root_.Tq.Opd.In (Ts : List Tab) (pl ws : List Str) (tx : Bool) : Opd → Prop
  | .cell .null => True
  | .cell (.txt z) => tx = true ∧ z ∈ pl
  | .cell (.val n) => tx = false ∧ n ∈ ws
  | .col t c => HasCol Ts tx t c
end Mx
namespace Mx
open PySem PySem.Spec PyProof.Rows L2 Tq
variable [Tb]
theorem p3 {R : V → DV → Prop} {vs : List V} {a b c : DV} (p : Paired R vs [a, b, c]) : ∃ v u x, vs = [v, u, x] ∧ R v a ∧ R u b ∧ R x c := by
  cases p with
  | cons h p => obtain ⟨v, u, rfl, h1, h2⟩ := p2 p; exact ⟨_, _, _, rfl, h, h1, h2⟩
theorem p4 {R : V → DV → Prop} {vs : List V} {a b c d : DV} (p : Paired R vs [a, b, c, d]) : ∃ v u x y, vs = [v, u, x, y] ∧ R v a ∧ R u b ∧ R x c ∧ R y d := by
  cases p with
  | cons h p => obtain ⟨v, u, x, rfl, h1, h2, h3⟩ := p3 p; exact ⟨_, _, _, _, rfl, h, h1, h2, h3⟩
theorem p5 {R : V → DV → Prop} {vs : List V} {a b c d e : DV} (p : Paired R vs [a, b, c, d, e]) : ∃ v u x y z, vs = [v, u, x, y, z] ∧ R v a ∧ R u b ∧ R x c ∧ R y d ∧ R z e := by
  cases p with
  | cons h p => obtain ⟨v, u, x, y, rfl, h1, h2, h3, h4⟩ := p4 p; exact ⟨_, _, _, _, _, rfl, h, h1, h2, h3, h4⟩
end Mx
namespace Mx
open PySem PySem.Spec PyProof.Rows L2 Tq
variable [Tb]
/-- tables, a pool of texts, words -/
structure Pool (Ts : List Tab) (pl ws : List Str) : Prop where
  tb : TbOk Ts
  pt : ∀ z ∈ pl, IsText z
  wt : ∀ z ∈ ws, IsName z
  pn : pl.length ≤ 10000
  wn : ws.length ≤ 10000
def fOperand : List DV → MQ → Prop := fun dvs Q => ∃ Ts pl ws tx, dvs = [.tp, .d (tabsD Ts), .l false false (sL pl), .l false false (sL ws), .d (.bool tx)] ∧ Pool Ts pl ws ∧ ∀ o : Opd, o.Ok → o.In Ts pl ws tx → Q (.d o.d)
end Mx
namespace Mx
open PySem PySem.Spec PyProof.Rows L2 Tq
variable [Tb]
theorem eqv_text (c : Col) : PyData.eqv c.kd (.str "text") = c.isT := by
  unfold Col.kd Col.isT
  cases c.kind with
  | none => decide +kernel
  | some vs => rfl
theorem kd_depth (c : Col) : c.kd.depth ≤ 64 := by
  unfold Col.kd
  cases c.kind with
  | none => exact Nat.zero_le _
  | some vs =>
    show PyData.depthAll (vs.map .str) + 1 ≤ 64
    have : PyData.depthAll (vs.map PyData.str) ≤ 0 := depthLe fun d m => by
      obtain ⟨z, _, rfl⟩ := List.mem_map.mp m; exact Nat.zero_le _
    omega
theorem at0 {α : Type} {xs : List α} {n : Int} (h0 : 0 ≤ n) (h1 : n < xs.length) : ∃ x, x ∈ xs ∧ ∀ {β : Type} (f : α → β), atI (xs.map f) n = some (f x) := by
  obtain ⟨x, e, m⟩ := atI_map (f := id) (xs := xs) h0 h1
  refine ⟨x, List.mem_of_getElem? m, fun {β} f => ?_⟩
  obtain ⟨y, e2, m2⟩ := atI_map (f := f) (xs := xs) h0 h1
  rw [m] at m2; cases m2
  exact e2
end Mx
namespace Tq
open Mx
mutual
/-- a condition over the tables and texts -/
def Tr.Cn (Ts : List Tab) (pl : List PySem.Str) : Tr → Prop
  | .tru => True
  | .fls => True
  | .ex t => t ∈ Ts.map Tab.name
  | .cmp _ l r => ∃ tx ws, l.In Ts pl ws tx ∧ r.In Ts pl ws tx
  | .neg a => a.Cn Ts pl
  | .jn _ ps => ps ≠ [] ∧ trsCn Ts pl ps
  | .op _ => False
  | .ite _ _ => False
def trsCn (Ts : List Tab) (pl : List PySem.Str) : List Tr → Prop
  | [] => True
  | t :: ts => t.Cn Ts pl ∧ trsCn Ts pl ts
end
mutual
/-- an expression over the tables, texts and values -/
def Tr.Ex (Ts : List Tab) (pl ws : List PySem.Str) (tx : Bool) : Tr → Prop
  | .op o => o.In Ts pl ws tx
  | .ite ps e => ps ≠ [] ∧ brsEx Ts pl ws tx ps ∧ e.Ex Ts pl ws tx ∧ ∃ o, e = .op o
  | _ => False
def brsEx (Ts : List Tab) (pl ws : List PySem.Str) (tx : Bool) : List (Tr × Tr) → Prop
  | [] => True
  | (a, b) :: r => a.Cn Ts pl ∧ b.Ex Ts pl ws tx ∧ brsEx Ts pl ws tx r
end
mutual
/-- how many nodes -/
def Tr.nd : Tr → Nat
  | .tru => 1
  | .fls => 1
  | .ex _ => 1
  | .cmp _ _ _ => 3
  | .neg a => a.nd + 1
  | .jn _ ps => trsNd ps + 1
  | .op _ => 1
  | .ite ps e => brsNd ps + e.nd + 1
def trsNd : List Tr → Nat
  | [] => 0
  | t :: ts => t.nd + trsNd ts
def brsNd : List (Tr × Tr) → Nat
  | [] => 0
  | (a, b) :: r => a.nd + b.nd + brsNd r
end
theorem trsNd_le {b : Nat} : ∀ {ts : List Tr}, (∀ t ∈ ts, t.nd ≤ b) → trsNd ts ≤ ts.length * b
  | [], _ => Nat.zero_le _
  | t :: ts, h => by
    have h1 := h t List.mem_cons_self
    have h2 := trsNd_le (ts := ts) fun x m => h x (List.mem_cons_of_mem _ m)
    rw [trsNd, List.length_cons, Nat.succ_mul]
    omega
theorem brsNd_le {b : Nat} : ∀ {ts : List (Tr × Tr)}, (∀ t ∈ ts, t.1.nd + t.2.nd ≤ b) → brsNd ts ≤ ts.length * b
  | [], _ => Nat.zero_le _
  | (x, y) :: ts, h => by
    have h1 := h (x, y) List.mem_cons_self
    have h2 := brsNd_le (ts := ts) fun x m => h x (List.mem_cons_of_mem _ m)
    rw [brsNd, List.length_cons, Nat.succ_mul]
    have h1 : x.nd + y.nd ≤ b := h1
    omega
def cb : Nat → Nat
  | 0 => 3
  | n + 1 => 6 * cb n + 1
theorem cb_3 : ∀ n, 3 ≤ cb n
  | 0 => Nat.le_refl _
  | n + 1 => by have := cb_3 n; rw [cb]; omega
theorem cb_up {n : Int} (h : 0 < n) : cb n.toNat = 6 * cb (n - 1).toNat + 1 := by
  have : n.toNat = (n - 1).toNat + 1 := by omega
  rw [this]; rfl
def eb : Nat → Nat
  | 0 => 1
  | n + 1 => 4 * (19 + eb n) + 2
theorem eb_1 : ∀ n, 1 ≤ eb n
  | 0 => Nat.le_refl _
  | n + 1 => by rw [eb]; omega
theorem eb_up {n : Int} (h : 0 < n) : eb n.toNat = 4 * (19 + eb (n - 1).toNat) + 2 := by
  have : n.toNat = (n - 1).toNat + 1 := by omega
  rw [this]; rfl
theorem trsCn_iff {Ts : List Tab} {pl : List PySem.Str} : ∀ {ts : List Tr}, trsCn Ts pl ts ↔ ∀ t ∈ ts, t.Cn Ts pl
  | [] => by simp [trsCn]
  | t :: ts => by rw [trsCn, trsCn_iff]; simp
theorem brsEx_iff {Ts : List Tab} {pl ws : List PySem.Str} {tx : Bool} : ∀ {ts : List (Tr × Tr)}, brsEx Ts pl ws tx ts ↔ ∀ p ∈ ts, p.1.Cn Ts pl ∧ p.2.Ex Ts pl ws tx
  | [] => by simp [brsEx]
  | (a, b) :: ts => by rw [brsEx, brsEx_iff]; simp [and_assoc]
end Tq
namespace Mx
open PySem PySem.Spec PyProof.Rows L2 Tq
variable [Tb]
abbrev twoD (p : Str × Str) : PyData := .tuple [.str p.1, .str p.2]
def fTextual : List DV → MQ → Prop := fun dvs Q => ∃ Ts, dvs = [.d (tabsD Ts)] ∧ colN Ts ≤ 1000 ∧ Q (.l true true ((textual Ts).map twoD))
def fCond : Nat → List DV → MQ → Prop
  | 0 => fun _ _ => False
  | d + 1 => fun dvs Q => ∃ Ts pl ws, ∃ dp : Int, dvs = [.tp, .d (tabsD Ts), .l false false (sL pl), .l false false (sL ws), .d (.int dp)] ∧ Pool Ts pl ws ∧ 0 ≤ dp ∧ dp ≤ d ∧ ∀ tr : Tr, tr.Ok → tr.Cn Ts pl → tr.dep ≤ dp.toNat + 2 → tr.nd ≤ cb dp.toNat → Q (.d tr.d)
def fExpr : Nat → List DV → MQ → Prop
  | 0 => fun _ _ => False
  | d + 1 => fun dvs Q => ∃ Ts pl ws tx, ∃ dp : Int, dvs = [.tp, .d (tabsD Ts), .l false false (sL pl), .l false false (sL ws), .d (.bool tx), .d (.int dp)] ∧ Pool Ts pl ws ∧ 0 ≤ dp ∧ dp ≤ d ∧ ∀ tr : Tr, tr.Ok → tr.Ex Ts pl ws tx → tr.dep ≤ dp.toNat + 3 → tr.nd ≤ eb dp.toNat → Q (.d tr.d)
end Mx
namespace Mx
open PySem PySem.Spec PyProof.Rows L2 Tq
variable [Tb]
def fDeepened : List DV → MQ → Prop := fun dvs Q => ∃ Ts pl tr, ∃ m : Int, dvs = [.tp, .d (Tr.d tr), .d (.int m)] ∧ tr.Ok ∧ tr.Cn Ts pl ∧ 0 ≤ m ∧ m ≤ 100 ∧ ∀ tr' : Tr, tr'.Ok → tr'.Cn Ts pl → tr'.dep ≤ max tr.dep 1 + m.toNat → tr'.nd ≤ tr.nd + 2 * m.toNat → Q (.d tr'.d)
def fTree : List DV → MQ → Prop := fun dvs Q => ∃ Ts pl, dvs = [.tp, .d (tabsD Ts), .l false false (sL pl)] ∧ TbOk Ts ∧ (∀ z ∈ pl, IsText z) ∧ pl.length ≤ 10000 ∧ ∀ tr : Tr, tr.Ok → (tr.Cn Ts pl ∨ ∃ ws tx, tr.Ex Ts pl ws tx) → tr.dep ≤ 20 → tr.nd ≤ 700 → Q (.d tr.d)
end Mx
namespace Mx
open PySem PySem.Spec PyProof.Rows L2 Tq
variable [Tb]
def fLarge : List DV → MQ → Prop := fun dvs Q => ∃ wd : Int, dvs = [.tp, .d (.int wd)] ∧ 1 ≤ wd ∧ wd ≤ 300 ∧ ∀ Ts, TbOk Ts → Q (.d (tabsD Ts))
theorem colN_lt {Ts : List Tab} {T : Tab} : colN (Ts ++ [T]) = colN Ts + T.cols.length := colN_snoc _ _
theorem name_w {k : Nat} (h : k < 1000) : IsName ("w" ++ Str.ofString (toString (k : Int))) := by
  have w : IsW "w" := ⟨⟨_, _, rfl, by decide, by decide⟩, by decide +kernel⟩
  refine ⟨w.app fun c hc => by have := numS_ok k c hc; unfold isM; omega, ?_, nm_free "w" k⟩
  have a := numS_len (k := k) (by omega)
  have e : ("w" ++ Str.ofString (toString (k : Int)) : Str).length = ("w" : Str).length + (numS k).length := app_len _ _
  rw [e]
  have : ("w" : Str).length = 1 := rfl
  omega
end Mx

namespace Mx
open PySem PySem.Spec PyProof.Rows L2 Tq
variable [Tb]
def kdD (k : Option (List Str)) : PyData := (Col.mk "" k false).kd
def KdOk (k : Option (List Str)) : Prop := ∀ vs, k = some vs → vs ≠ [] ∧ vs.length ≤ 300 ∧ ∀ z ∈ vs, IsName z
end Mx
namespace Tq
open Mx PySem
/-- an operand, a tree with texts replaced -/
def Opd.ren (f : Str → Option Str) : Opd → Opd
  | .cell c => .cell (c.sub f)
  | .col t c => .col t c
mutual
def Tr.ren (f : Str → Option Str) : Tr → Tr
  | .tru => .tru
  | .fls => .fls
  | .ex t => .ex t
  | .cmp e l r => .cmp e (l.ren f) (r.ren f)
  | .neg a => .neg (a.ren f)
  | .jn c ps => .jn c (trsRen f ps)
  | .op o => .op (o.ren f)
  | .ite ps e => .ite (brsRen f ps) (e.ren f)
def trsRen (f : Str → Option Str) : List Tr → List Tr
  | [] => []
  | t :: ts => t.ren f :: trsRen f ts
def brsRen (f : Str → Option Str) : List (Tr × Tr) → List (Tr × Tr)
  | [] => []
  | (a, b) :: r => (a.ren f, b.ren f) :: brsRen f r
end
theorem trsRen_map (f : Str → Option Str) : ∀ ts : List Tr, trsRen f ts = ts.map (Tr.ren f)
  | [] => rfl
  | t :: ts => by rw [List.map_cons, ← trsRen_map f ts]; rfl
theorem brsRen_map (f : Str → Option Str) : ∀ ts : List (Tr × Tr), brsRen f ts = ts.map fun p => (p.1.ren f, p.2.ren f)
  | [] => rfl
  | (a, b) :: ts => by rw [List.map_cons, ← brsRen_map f ts]; rfl
theorem opd_ren_ok {f : Str → Option Str} (h : ∀ z y, f z = some y → IsText y) {o : Opd} (k : o.Ok) : (o.ren f).Ok := by
  cases o with
  | col t c => exact k
  | cell c => cases c with
    | null => exact k
    | val n => exact k
    | txt z =>
      show IsText ((f z).getD z)
      cases e : f z with
      | none => exact k
      | some y => exact h z y e
mutual
theorem ren_ok {f : Str → Option Str} (h : ∀ z y, f z = some y → IsText y) : ∀ t : Tr, t.Ok → (t.ren f).Ok
  | .tru, _ => trivial
  | .fls, _ => trivial
  | .ex _, k => k
  | .cmp _ _ _, k => ⟨opd_ren_ok h k.1, opd_ren_ok h k.2⟩
  | .neg a, k => ren_ok h a k
  | .jn _ ps, k => ⟨by rw [trsRen_map, List.length_map]; exact k.1, rens_ok h ps k.2⟩
  | .op _, k => opd_ren_ok h k
  | .ite ps e, k => ⟨by rw [brsRen_map, List.length_map]; exact k.1, renb_ok h ps k.2.1, ren_ok h e k.2.2⟩
theorem rens_ok {f : Str → Option Str} (h : ∀ z y, f z = some y → IsText y) : ∀ ts : List Tr, trsOk ts → trsOk (trsRen f ts)
  | [], _ => trivial
  | t :: ts, k => ⟨ren_ok h t k.1, rens_ok h ts k.2⟩
theorem renb_ok {f : Str → Option Str} (h : ∀ z y, f z = some y → IsText y) : ∀ ts : List (Tr × Tr), brsOk ts → brsOk (brsRen f ts)
  | [], _ => trivial
  | (a, b) :: ts, k => ⟨ren_ok h a k.1, ren_ok h b k.2.1, renb_ok h ts k.2.2⟩
end
mutual
theorem ren_dep (f : Str → Option Str) : ∀ t : Tr, (t.ren f).dep = t.dep
  | .tru => rfl
  | .fls => rfl
  | .ex _ => rfl
  | .cmp _ _ _ => rfl
  | .neg a => by show (a.ren f).dep + 1 = a.dep + 1; rw [ren_dep f a]
  | .jn _ ps => by show trsDep (trsRen f ps) + 1 = trsDep ps + 1; rw [rens_dep f ps]
  | .op _ => rfl
  | .ite ps e => by show max (brsDep (brsRen f ps)) (e.ren f).dep + 1 = max (brsDep ps) e.dep + 1; rw [renb_dep f ps, ren_dep f e]
theorem rens_dep (f : Str → Option Str) : ∀ ts : List Tr, trsDep (trsRen f ts) = trsDep ts
  | [] => rfl
  | t :: ts => by show max (t.ren f).dep (trsDep (trsRen f ts)) = max t.dep (trsDep ts); rw [ren_dep f t, rens_dep f ts]
theorem renb_dep (f : Str → Option Str) : ∀ ts : List (Tr × Tr), brsDep (brsRen f ts) = brsDep ts
  | [] => rfl
  | (a, b) :: ts => by show max (max (a.ren f).dep (b.ren f).dep) (brsDep (brsRen f ts)) = max (max a.dep b.dep) (brsDep ts); rw [ren_dep f a, ren_dep f b, renb_dep f ts]
end
theorem opd_depth (o : Opd) : o.d.depth ≤ 2 := by
  cases o with
  | cell c => cases c with
    | null => decide
    | txt z => exact (show 1 ≤ 2 by decide)
    | val n => exact (show 2 ≤ 2 by decide)
  | col t c => exact (show 1 ≤ 2 by decide)
theorem depth_tup {ds : List PyData} {n : Nat} (h : ∀ d ∈ ds, d.depth ≤ n) : (PyData.tuple ds).depth ≤ n + 1 := by
  show PyData.depthAll ds + 1 ≤ n + 1
  have := depthLe h
  omega
mutual
theorem tr_depth : ∀ t : Tr, t.d.depth ≤ 3 * t.dep
  | .tru => by show 1 ≤ 3; omega
  | .fls => by show 1 ≤ 3; omega
  | .ex _ => by show 1 ≤ 3; omega
  | .cmp e l r => by
    have a := opd_depth l
    have b := opd_depth r
    refine Nat.le_trans (depth_tup (n := 2) fun d m => ?_) (show 3 ≤ 6 by omega)
    rcases List.mem_cons.mp m with rfl | m
    · exact Nat.zero_le _
    · rcases List.mem_cons.mp m with rfl | m
      · exact a
      · rw [List.mem_singleton.mp m]; exact b
  | .neg a => by
    have := tr_depth a
    refine Nat.le_trans (depth_tup (n := 3 * a.dep) fun d m => ?_) (show 3 * a.dep + 1 ≤ 3 * (a.dep + 1) by omega)
    rcases List.mem_cons.mp m with rfl | m
    · exact Nat.zero_le _
    · rw [List.mem_singleton.mp m]; exact this
  | .jn c ps => by
    have := trs_depth ps
    refine Nat.le_trans (depth_tup (n := 3 * trsDep ps + 1) fun d m => ?_) (show 3 * trsDep ps + 1 + 1 ≤ 3 * (trsDep ps + 1) by omega)
    rcases List.mem_cons.mp m with rfl | m
    · exact Nat.zero_le _
    · rw [List.mem_singleton.mp m]; exact depth_tup this
  | .op o => Nat.le_trans (opd_depth o) (by show 2 ≤ 3; omega)
  | .ite ps e => by
    have h1 := brs_depth ps
    have h2 := tr_depth e
    have m1 : brsDep ps ≤ max (brsDep ps) e.dep := Nat.le_max_left _ _
    have m2 : e.dep ≤ max (brsDep ps) e.dep := Nat.le_max_right _ _
    refine Nat.le_trans (depth_tup (n := 3 * (max (brsDep ps) e.dep) + 2) fun d m => ?_) (show 3 * (max (brsDep ps) e.dep) + 2 + 1 ≤ 3 * (max (brsDep ps) e.dep + 1) by omega)
    rcases List.mem_cons.mp m with rfl | m
    · exact Nat.zero_le _
    · rcases List.mem_cons.mp m with rfl | m
      · have := depth_tup h1
        omega
      · rw [List.mem_singleton.mp m]; omega
theorem trs_depth : ∀ ts : List Tr, ∀ d ∈ trsD ts, d.depth ≤ 3 * trsDep ts
  | [], _, m => nomatch m
  | t :: ts, d, m => by
    have a := tr_depth t
    have l1 : t.dep ≤ max t.dep (trsDep ts) := Nat.le_max_left _ _
    have l2 : trsDep ts ≤ max t.dep (trsDep ts) := Nat.le_max_right _ _
    show d.depth ≤ 3 * max t.dep (trsDep ts)
    rcases List.mem_cons.mp m with rfl | m
    · omega
    · have := trs_depth ts d m
      omega
theorem brs_depth : ∀ ts : List (Tr × Tr), ∀ d ∈ brsD ts, d.depth ≤ 3 * brsDep ts + 1
  | [], _, m => nomatch m
  | (a, b) :: ts, d, m => by
    have h1 := tr_depth a
    have h2 := tr_depth b
    show d.depth ≤ 3 * max (max a.dep b.dep) (brsDep ts) + 1
    rcases List.mem_cons.mp m with rfl | m
    · refine depth_tup (n := 3 * max (max a.dep b.dep) (brsDep ts)) fun d m => ?_
      rcases List.mem_cons.mp m with rfl | m
      · omega
      · rw [List.mem_singleton.mp m]; omega
    · have := brs_depth ts d m
      omega
end
end Tq
namespace Mx
open PySem PySem.Spec PyProof.Rows L2 Tq
variable [Tb]
/-- the dict gives the texts of f -/
def KvT (kvs : List (Key × PyData)) (f : Str → Option Str) : Prop := ∀ z, valD kvs (Sum.inr z) = (f z).map PyData.str
def fWith : Nat → List DV → MQ → Prop
  | 0 => fun _ _ => False
  | d + 1 => fun dvs Q => ∃ tr kvs f, dvs = [.d (Tr.d tr), .k false false kvs] ∧ tr.Ok ∧ tr.dep ≤ d ∧ KvT kvs f ∧ Q (.d (tr.ren f).d)
def fAll (d : Nat) : List DV → MQ → Prop := fun dvs Q => ∃ (trs : List Tr) (kvs : List (Key × PyData)) (f : Str → Option Str), dvs = [.d (.tuple (trs.map Tr.d)), .k false false kvs] ∧ trs.length ≤ 100 ∧ (∀ t ∈ trs, t.Ok ∧ t.dep + 1 ≤ d) ∧ KvT kvs f ∧ Q (.d (.tuple (trs.map fun t => (t.ren f).d)))
def txP (prs : List (Str × Str)) : List PyData := prs.map fun p => .tuple [.str p.1, .str p.2]
def fTreeRen : List DV → MQ → Prop := fun dvs Q => ∃ (tr : Tr) (prs : List (Str × Str)), dvs = [.d (Tr.d tr), .pt false (txP prs)] ∧ tr.Ok ∧ tr.dep ≤ 20 ∧ Q (.d (tr.ren (look prs)).d)
def fShuf : List DV → MQ → Prop := fun dvs Q => ∃ xs : List Str, dvs = [.tp, .l false false (sL xs)] ∧ xs.length ≤ 1000 ∧ ∀ ys : List Str, ys.Perm xs → Q (.l true true (sL ys))
def fPaired : List DV → MQ → Prop := fun dvs Q => ∃ xs ys : List Str, dvs = [.l false false (sL xs), .l false false (sL ys)] ∧ xs.length = ys.length ∧ xs.length ≤ 1000 ∧ ∀ kvs, KvT kvs (look (xs.zip ys)) → Q (.k true true kvs)
def fIsCmp : List DV → MQ → Prop := fun dvs Q => ∃ (h : Str) (r : List PyData), dvs = [.d (.tuple (.str h :: r))] ∧ Q (.d (.bool (decide (h = "=" ∨ h = "!="))))
theorem valD_put (kvs : List (Key × PyData)) (k j : Key) (v : PyData) : valD (putD kvs k v) j = if j = k then some v else valD kvs j := by
  unfold valD putD
  by_cases a : (kvs.any fun e => decide (e.1 = k)) = true
  · rw [if_pos a]
    induction kvs with
    | nil => cases a
    | cons e r ih =>
      rw [List.map_cons, List.find?_cons, List.find?_cons]
      by_cases e1 : e.1 = k
      · rw [if_pos e1]
        by_cases e2 : j = k
        · subst e2
          rw [if_pos rfl, decide_eq_true e1]; rfl
        · rw [if_neg e2]
          have n1 : ¬ e.1 = j := fun h => e2 (h.symm.trans e1)
          rw [decide_eq_false n1]
          by_cases a2 : (r.any fun e => decide (e.1 = k)) = true
          · have := ih a2
            rw [if_neg e2] at this
            exact this
          · have e3 : r.map (fun e => if e.1 = k then (e.1, v) else e) = r := by
              conv => rhs; rw [← List.map_id r]
              refine List.map_congr_left fun x m => ?_
              rw [if_neg]; rfl
              intro h
              exact a2 (List.any_eq_true.mpr ⟨x, m, decide_eq_true h⟩)
            rw [e3]
      · rw [if_neg e1]
        by_cases e2 : e.1 = j
        · rw [decide_eq_true e2]
          have : ¬ j = k := fun h => e1 (e2.trans h)
          rw [if_neg this]
        · rw [decide_eq_false e2]
          refine ih ?_
          rw [List.any_cons, decide_eq_false e1] at a
          exact a
  · rw [if_neg a, List.find?_append]
    by_cases e2 : j = k
    · subst e2
      rw [if_pos rfl]
      have : kvs.find? (fun kv => decide (kv.1 = j)) = none := List.find?_eq_none.mpr fun x m h => a (List.any_eq_true.mpr ⟨x, m, h⟩)
      rw [this]
      simp
    · rw [if_neg e2]
      have : ([(k, v)] : List (Key × PyData)).find? (fun kv => decide (kv.1 = j)) = none := List.find?_eq_none.mpr fun x m h => by
        rw [List.mem_singleton.mp m] at h
        exact e2 (of_decide_eq_true h).symm
      rw [this]; simp
theorem look_snoc (prs : List (Str × Str)) (a b z : Str) : look (prs ++ [(a, b)]) z = if z = a then some b else look prs z := by
  unfold look
  rw [List.foldl_append]; rfl
theorem kvt_put {kvs : List (Key × PyData)} {prs : List (Str × Str)} (h : KvT kvs (look prs)) (a b : Str) : KvT (putD kvs (Sum.inr a) (.str b)) (look (prs ++ [(a, b)])) := fun z => by
  rw [valD_put, look_snoc, h z]
  by_cases e : z = a
  · rw [if_pos e, if_pos (congrArg Sum.inr e)]; rfl
  · rw [if_neg e, if_neg (fun q => e (Sum.inr.inj q))]
theorem kvt_nil : KvT [] (look []) := fun _ => rfl
theorem pairsOf_tx : ∀ prs : List (Str × Str), pairsOf (txP prs) = some (prs.map fun p => (Sum.inr p.1, PyData.str p.2))
  | [] => rfl
  | p :: r => by
    show (match pairsOf (txP r) with | some l => some ((Sum.inr p.1, PyData.str p.2) :: l) | none => none) = _
    rw [pairsOf_tx r]; rfl
theorem kvt_merge (prs : List (Str × Str)) : KvT (mergeD [] (prs.map fun p => (Sum.inr p.1, PyData.str p.2))) (look prs) := by
  refine snoc_ind (P := fun prs => KvT (mergeD [] (prs.map fun p => (Sum.inr p.1, PyData.str p.2))) (look prs)) kvt_nil (fun r q h => ?_) prs
  unfold mergeD at *
  rw [List.map_append, List.foldl_append]
  exact kvt_put h q.1 q.2
end Mx
/-! walking a body over plain data -/
namespace Mx
open PySem PySem.Spec PyProof.Rows L2 Tq
variable [Tb]
section
variable {α : Type} {ε : Env} {g : MG} {body : MS} {D : MEnds} {l : List α} {f : α → PyData} {mt : MT} {me : ME} {vs : List Nat} {Q : MQ} {i : Nat}
theorem cnd {c A B : Prop} [Decidable c] (h1 : c → A) (h2 : ¬ c → B) : Cnd (decide c) A B := ⟨l_if h1 h2⟩
theorem cndN {c A B : Prop} [Decidable c] (h1 : ¬ c → A) (h2 : c → B) : Cnd (!decide c) A B := ⟨l_ifN h1 h2⟩
theorem cndB {b : Bool} {A B : Prop} (h1 : b = true → A) (h2 : b = false → B) : Cnd b A B := ⟨l_if2 h1 h2⟩
theorem cndT {b : Bool} {A B : Prop} (e : b = true) (h : A) : Cnd b A B := by subst e; exact ⟨h⟩
theorem cndF {b : Bool} {A B : Prop} (e : b = false) (h : B) : Cnd b A B := by subst e; exact ⟨h⟩
theorem map_get {l : List α} {f : α → PyData} {k : Nat} {x : PyData} (h : (l.map f)[k]? = some x) : ∃ y, l[k]? = some y ∧ x = f y := by
  rw [List.getElem?_map] at h
  obtain ⟨y, hy, e⟩ := Option.map_eq_some_iff.mp h
  exact ⟨y, hy, e.symm⟩
/-- the loop over mapped data -/
theorem loop (I : Nat → Env → Prop) (h0 : I 0 ε) (hs : ∀ k x ε, l[k]? = some x → I k ε → g (.d (f x)) ε fun ε' => body { D with nx := I (k + 1), ct := I (k + 1), bk := D.nx } ε') (hd : ∀ ε, I l.length ε → D.nx ε) : ForGoal g body D ε (l.map f) :=
  ⟨I, h0, fun k x ε hx hI => by obtain ⟨y, hy, rfl⟩ := map_get hx; exact hs k y ε hy hI, fun ε h => hd ε (by rw [List.length_map] at h; exact h)⟩
/-- over a range -/
theorem loopR {lo : Int} {n : Nat} (I : Nat → Env → Prop) (h0 : I 0 ε) (hs : ∀ k ε, k < n → I k ε → g (.d (.int (lo + (k : Int)))) ε fun ε' => body { D with nx := I (k + 1), ct := I (k + 1), bk := D.nx } ε') (hd : ∀ ε, I n ε → D.nx ε) : ForGoal g body D ε (rngD lo n) :=
  ⟨I, h0, fun k x ε hx hI => by obtain ⟨l, rfl⟩ := rng_get hx; exact hs k ε l hI, fun ε h => hd ε (by rw [rng_len] at h; exact h)⟩
theorem wh {c : MT} (W : Nat → Env → Prop) (m : Nat) (w0 : W m ε) (hs : ∀ m ε, W m ε → c ε fun b => Cnd b (body { D with nx := fun ε' => ∃ m', m' < m ∧ W m' ε', ct := fun ε' => ∃ m', m' < m ∧ W m' ε', bk := D.nx } ε) (D.nx ε)) : WhGoal c body D ε := ⟨W, ⟨m, w0⟩, hs⟩
/-- filter and map: p tells what is kept, h what it becomes -/
theorem lc_fm (p : α → Bool) (h : α → PyData) (few : l.length ≤ 1000000)
    (hs : ∀ x ∈ l, ∀ (P : PyData → Prop) (N : Prop), (p x = true → P (h x)) → (p x = false → N) → g (.d (f x)) (wipeE ε vs) fun ε' => mt ε' fun b => Cnd b (me ε' fun dv => match dv with
      | .d y => P y
      | _ => False) N) (hd : Q (.l true true ((l.filter p).map h))) : LcGoal g mt me vs ε (l.map f) Q := by
  refine ⟨fun k acc => acc = ((l.take k).filter p).map h, rfl, fun k x acc hx e => ?_, fun acc e => ?_⟩
  · obtain ⟨y, hy, rfl⟩ := map_get hx
    have tk : l.take (k + 1) = l.take k ++ [y] := by rw [List.take_add_one, hy]; rfl
    refine hs y (List.mem_of_getElem? hy) (fun z => acc.length < sizeLine ∧ acc ++ [z] = ((l.take (k + 1)).filter p).map h) _ (fun py => ⟨?_, ?_⟩) fun py => ?_
    · rw [e, List.length_map]
      have h1 := List.length_filter_le p (l.take k)
      have h2 : (l.take k).length ≤ k := by rw [List.length_take]; omega
      have h3 := (List.getElem?_eq_some_iff.mp hy).1
      exact fits_lt (by omega)
    · rw [e, tk, List.filter_append, List.map_append]
      simp [py]
    · show acc = _
      rw [e, tk, List.filter_append, List.map_append]
      simp [py]
  · rw [List.length_map, List.take_of_length_le (Nat.le_refl _)] at e
    rw [e]; exact hd
/-- each becomes something of its kind -/
theorem lc_rel (R : α → PyData → Prop) (few : l.length ≤ 1000000)
    (hs : ∀ x ∈ l, ∀ (P : PyData → Prop) (N : Prop), (∀ y, R x y → P y) → g (.d (f x)) (wipeE ε vs) fun ε' => mt ε' fun b => Cnd b (me ε' fun dv => match dv with
      | .d y => P y
      | _ => False) N) (hd : ∀ ys : List PyData, ys.length = l.length → (∀ (k : Nat) x y, l[k]? = some x → ys[k]? = some y → R x y) → Q (.l true true ys)) : LcGoal g mt me vs ε (l.map f) Q := by
  refine ⟨fun k acc => acc.length = k ∧ ∀ (j : Nat) x y, l[j]? = some x → acc[j]? = some y → R x y, ⟨rfl, fun j x y _ e => by simp at e⟩, fun k x acc hx e => ?_, fun acc e => ?_⟩
  · obtain ⟨y, hy, rfl⟩ := map_get hx
    have h3 := (List.getElem?_eq_some_iff.mp hy).1
    refine hs y (List.mem_of_getElem? hy) (fun z => acc.length < sizeLine ∧ (acc ++ [z]).length = k + 1 ∧ ∀ (j : Nat) x y, l[j]? = some x → (acc ++ [z])[j]? = some y → R x y) _ fun z hz => ⟨fits_lt (by omega), by simp [e.1], fun j u v hu hv => by
      by_cases c : j < acc.length
      · rw [List.getElem?_append_left c] at hv
        exact e.2 j u v hu hv
      · have c2 : j = acc.length := by
          have := (List.getElem?_eq_some_iff.mp hv).1
          simp at this; omega
        subst c2
        rw [List.getElem?_append_right (Nat.le_refl _), Nat.sub_self] at hv
        have e1 : z = v := by simpa using hv
        rw [e.1, hy] at hu
        have e2 : y = u := by simpa using hu
        rw [← e1, ← e2]; exact hz⟩
  · rw [List.length_map] at e
    exact hd acc e.1 e.2
end
end Mx
namespace Mx
open PySem PySem.Spec PyProof.Rows L2 Tq
variable [Tb]
/-- what holds between two statements -/
theorem cut {a b : MS} {D : MEnds} {ε : Env} (I : Env → Prop) (hA : ∀ N : Env → Prop, (∀ ε, I ε → N ε) → a { D with nx := N } ε) (hB : ∀ ε, I ε → b D ε) : mSeq a b D ε := hA (b D) hB
theorem sL_nil {zs : List Str} : (sL zs).isEmpty = zs.isEmpty := by cases zs <;> rfl
theorem pos_of {α : Type} {l : List α} {b : Bool} (h : b = true) (e : b = !l.isEmpty) : 0 < l.length := by
  subst e
  cases l with
  | nil => cases h
  | cons x r => exact Nat.zero_lt_succ _
end Mx
namespace Mx
open PySem
variable [Tb]
theorem sz1 : 1 ≤ sizeLine := by decide
theorem sz2 : 2 ≤ sizeLine := by decide
theorem sz3 : 3 ≤ sizeLine := by decide
theorem sz4 : 4 ≤ sizeLine := by decide
theorem sz5 : 5 ≤ sizeLine := by decide
theorem sz6 : 6 ≤ sizeLine := by decide
end Mx
namespace Mx
open PySem PySem.Spec PyProof.Rows L2 Tq
variable [Tb]
/-- a statement that goes on as it came, or leaves -/
theorem cutE {a b : MS} {D : MEnds} {ε : Env} (hA : ∀ N : Env → Prop, N ε → a { D with nx := N } ε) (hB : b D ε) : mSeq a b D ε := hA (b D) hB
end Mx
namespace Mx
open PySem PySem.Spec PyProof.Rows L2 Tq
variable [Tb]
theorem pickI {n : Int} (ls : List Int) (lo hi : Int) (h : ∀ z ∈ ls, lo ≤ z ∧ z ≤ hi) (n0 : 0 ≤ n) (n1 : n < ls.length) : ∃ v, atI (ls.map PyData.int) n = some (.int v) ∧ lo ≤ v ∧ v ≤ hi := by
  obtain ⟨z, e, m⟩ := atI_map (f := PyData.int) n0 n1
  exact ⟨z, e, h z (List.mem_of_getElem? m)⟩
/-- one of two -/
theorem pick2 {α : Type} {n : Int} (a b : α) (n0 : 0 ≤ n) (n1 : n < 2) : ∃ c : Bool, atI [a, b] n = some (if c then a else b) := by
  have : n = 0 ∨ n = 1 := by omega
  rcases this with rfl | rfl
  · exact ⟨true, rfl⟩
  · exact ⟨false, rfl⟩
end Mx
namespace Mx
open PySem PySem.Spec PyProof.Rows L2 Tq
variable [Tb]
theorem filt_true {α : Type} : ∀ l : List α, l.filter (fun _ => true) = l
  | [] => rfl
  | x :: r => by rw [List.filter_cons, if_pos rfl, filt_true r]
/-- map alone -/
theorem lc_mp {α : Type} {ε : Env} {g : MG} {l : List α} {f : α → PyData} {mt : MT} {me : ME} {vs : List Nat} {Q : MQ} (h : α → PyData) (few : l.length ≤ 1000000)
    (hs : ∀ x ∈ l, ∀ (P : PyData → Prop) (N : Prop), P (h x) → g (.d (f x)) (wipeE ε vs) fun ε' => mt ε' fun b => Cnd b (me ε' fun dv => match dv with
      | .d y => P y
      | _ => False) N) (hd : Q (.l true true (l.map h))) : LcGoal g mt me vs ε (l.map f) Q :=
  lc_fm (fun _ => true) h few (fun x m P N hP _ => hs x m P N (hP rfl)) (by rw [filt_true]; exact hd)
end Mx
namespace Mx
open PySem PySem.Spec PyProof.Rows L2 Tq
variable [Tb]
theorem at_z {α : Type} (x : α) (r : List α) : atI (x :: r) 0 = some x := by
  obtain ⟨y, e, m⟩ := atI_some (xs := x :: r) (i := 0) (by omega) (by simp)
  rw [e]
  simpa using m.symm
end Mx
namespace Mx
open PySem PySem.Spec PyProof.Rows L2 Tq
variable [Tb]
theorem sL_app (a b : List Str) : sL (a ++ b) = sL a ++ sL b := List.map_append
theorem sL_erase (a : List Str) (n : Nat) : (sL a).eraseIdx n = sL (a.eraseIdx n) := map_erase _ _ _
end Mx
namespace Mx
open PySem PySem.Spec PyProof.Rows L2 Tq
variable [Tb]
theorem sL_flat : ∀ zs : List Str, (sL zs).all flatD = true
  | [] => rfl
  | _ :: r => by show (true && (sL r).all flatD) = true; rw [sL_flat r]; rfl
theorem inD_sL (z : Str) : ∀ zs : List Str, inD (.str z) (sL zs) = decide (z ∈ zs)
  | [] => rfl
  | y :: r => by
    have ih := inD_sL z r
    unfold inD at *
    show (PyData.eqv (.str y) (.str z) || (sL r).any fun w => PyData.eqv w (.str z)) = _
    rw [ih]
    show ((y == z) || decide (z ∈ r)) = _
    by_cases e : y = z
    · subst e; simp
    · have e2 : ¬ z = y := fun h => e h.symm
      simp [e, e2]
theorem cutD_sL (zs : List Str) (lo hi : Option Int) : ∃ us : List Str, cutD (sL zs) lo hi = sL us ∧ us.length ≤ zs.length ∧ us.Sublist zs := by
  refine ⟨(zs.drop (HT.sIx (sL zs).length 0 lo)).take (HT.sIx (sL zs).length (sL zs).length hi - HT.sIx (sL zs).length 0 lo), ?_, ?_, ?_⟩
  · unfold cutD
    rw [← List.map_drop, ← List.map_take]
  · rw [List.length_take, List.length_drop]; omega
  · exact (List.take_sublist _ _).trans (List.drop_sublist _ _)
theorem sL_of {p : Str → Prop} : ∀ {ys : List PyData}, (∀ y ∈ ys, ∃ z, y = .str z ∧ p z) → ∃ ns : List Str, ys = sL ns ∧ ∀ z ∈ ns, p z
  | [], _ => ⟨[], rfl, fun _ m => nomatch m⟩
  | y :: r, h => by
    obtain ⟨z, rfl, hz⟩ := h y List.mem_cons_self
    obtain ⟨ns, rfl, hn⟩ := sL_of (ys := r) fun y m => h y (List.mem_cons_of_mem _ m)
    refine ⟨z :: ns, rfl, fun u m => ?_⟩
    rcases List.mem_cons.mp m with rfl | m
    · exact hz
    · exact hn u m
theorem rel_mem {α : Type} {l : List α} {ys : List PyData} {R : α → PyData → Prop} (e : ys.length = l.length) (h : ∀ (k : Nat) x y, l[k]? = some x → ys[k]? = some y → R x y) : ∀ y ∈ ys, ∃ x ∈ l, R x y := fun y m => by
  obtain ⟨k, hk, ek⟩ := List.getElem_of_mem m
  have hl : k < l.length := by omega
  exact ⟨l[k], List.getElem_mem hl, h k _ _ (List.getElem?_eq_getElem hl) (by rw [List.getElem?_eq_getElem hk, ek])⟩
theorem at_sL {zs : List Str} {k : Nat} {z : Str} (h : zs[k]? = some z) : atI (sL zs) (k : Int) = some (.str z) := by
  have l1 := (List.getElem?_eq_some_iff.mp h).1
  obtain ⟨x, e1, e2⟩ := atI_map (f := PyData.str) (xs := zs) (i := (k : Int)) (by omega) (by omega)
  rw [Int.toNat_natCast, h] at e2
  cases e2; exact e1
theorem range_zip (xs ys : List Str) (h : xs.length = ys.length) : ((List.range xs.length).map fun k => PyData.tuple [.str (xs.getD k ""), .str (ys.getD k "")]) = txP (xs.zip ys) := by
  apply List.ext_getElem?
  intro k
  unfold txP
  rw [List.getElem?_map, List.getElem?_map]
  by_cases l : k < xs.length
  · rw [List.getElem?_range l, List.getElem?_eq_getElem (show k < (xs.zip ys).length by rw [List.length_zip]; omega), List.getElem_zip]
    simp [List.getD_eq_getElem?_getD, List.getElem?_eq_getElem l, List.getElem?_eq_getElem (show k < ys.length by omega)]
  · rw [List.getElem?_eq_none (by simp; omega), List.getElem?_eq_none (by rw [List.length_zip]; omega)]
    rfl
end Mx
/-! more rules: extend by a tuple, pop, max, two clauses -/
namespace Mx
open PySem PySem.Spec PyProof.Rows L2 Tq
variable [Tb]
theorem extT (l : Addr) (xs : Array Value) (n : Nat) (b : Addr) (o : Obj) (ys : Array Value) (k : Nat) (oc : o.cls = .type "tuple") (od : o.data = .seq ys k) (room : xs.size + ys.size ≤ sizeLine) :
    Meets (Builtin.«list.extend» ⟨[.ref l, .ref b], []⟩) (fun _ R s => s.heap.get? l = some { cls := .type "list", dict := none, data := .seq xs n, slots := #[] } ∧ s.heap.get? b = some o ∧ R (.ok (.ret Value.none)) { s with heap := s.heap.update l (Obj.mapSeq fun z => z ++ ys), toks := s.toks }) :=
  .of_wp fun P w A R s h => by
    obtain ⟨hl, hb, hR⟩ := h
    refine wpAny_bind ?_
    refine wpAny_pure ?_
    show wpAny _ _ (Builtin.List.listExtendWith (.ref l) (.ref b) .none) _ _ s
    unfold Builtin.List.listExtendWith
    refine wpAny_bind (wpAny_typeOf ⟨o, hb, oc⟩ ?_)
    have h1 : (Builtin.List.listSameRef (.ref l) (.ref b) || Value.type "tuple" == Value.type "list" || Value.type "tuple" == Value.type "tuple") = true := by simp
    simp only [h1, if_true]
    unfold Builtin.List.listItems
    refine wpAny_bind (wpAny_bind (wpAny_seqItems hb od (wpAny_pure ?_)))
    refine wpAny_bind (wpAny_bind (wpAny_seqItems hl rfl (wpAny_pure ?_)))
    have few : (!xs.isEmpty && Builtin.List.listTooLong (xs.size + ys.size)) = false := by
      have : Builtin.List.listTooLong (xs.size + ys.size) = false := by
        unfold Builtin.List.listTooLong
        exact decide_eq_false (by omega)
      rw [this, Bool.and_false]
    simp only [few, Bool.false_eq_true, if_false]
    refine wpAny_bind ?_
    show wpAny _ _ (updateSeq l (· ++ ys)) _ _ s
    refine wpAny_updateSeq hl rfl ?_ (hz := by omega) (_hz' := by rw [Array.size_append]; omega)
    exact wpAny_pure ⟨_, rfl, hR⟩
section
variable {X : Cx} {w : World} {K : PySem.W.Frag} {te : TE} {me : ME}
def rExtT (K : PySem.W.Frag) : V → List V → Hp → VK → Prop := fun x vs H Q => ∃ l b xs zs, x = .ref l ∧ vs = [.ref b] ∧ H l = some (.lst xs) ∧ SqT K H b zs ∧ xs.length + zs.length ≤ sizeLine ∧ Q .non (upd H l (.lst (xs ++ zs)))
theorem mt_extT : MtM X "list.extend" (rExtT X.K) := by
  intro pins s σ H x vs v us Q I rx rv h
  obtain ⟨l, b, xs, zs, rfl, rfl, hH, hB, hz, q⟩ := h
  cases rx
  obtain ⟨u, rfl, ru⟩ := rv.one
  cases ru
  obtain ⟨z, its, n, r, hl, e⟩ := I.lstM hH
  obtain ⟨its2, r2, ⟨o, g1, g2, n2, g3⟩, _⟩ := I.tuple hB
  have l2 := r2.length
  have room : its.toArray.size + its2.toArray.size ≤ sizeLine := by rw [List.size_toArray, List.size_toArray]; omega
  refine call_meets F.slot_list_extend ⟨_, e, rfl⟩ F.entry_list_extend (F.args_list_extend_2 _ _) (extT l its.toArray n b o its2.toArray n2 g2 g3 room) ⟨e, g1, ?_⟩
  refine ⟨.non, _, I.lset (its' := its ++ its2) hH e (by simp) (r.append r2) ?_, rfl, q⟩
  rw [List.length_append]
  omega
theorem k_extT (h : X.K = K) : MtM X "list.extend" (rExtT K) := h ▸ mt_extT
/-! xs.extend(e) -/
def mExtT (j : Nat) (me : ME) (D : MEnds) (ε : Env) : Prop := match ε[j]? with
  | some (some (.l true true xs)) => me ε fun dv => match dv with
    | .d (.tuple ys) => xs.length + ys.length ≤ sizeLine ∧ D.nx (ε.set j (some (.l true true (xs ++ ys))))
    | _ => False
  | _ => False
theorem ds_extT {j : Nat} (he : DE w K te me) : DS w K (tDrop (tBM K "list" (rExtT K) (tVar j) (tCons te tNil))) (mExtT j me) := by
  intro T F σ H ε D E r h s
  unfold mExtT at h
  split at h
  · rename_i xs e
    obtain ⟨a, vs, h1, h2, h3, h4, h5⟩ := r.at e
    refine ⟨_, h1, l_tyL (sqL h2), he T F σ H ε _ _ r h fun dv v H1 c h6 => ?_⟩
    split at h6
    · rename_i ys
      obtain ⟨b, us, rfl, hs, ha⟩ := dp_tup c.rv.1
      have r1 := c.rel r
      have h7 := c.k a _ h5 h2
      refine ⟨a, b, vs, us, rfl, rfl, h7, hs, by rw [h3.len, ha.len]; exact h6.1, s.nx _ _ ⟨_, r1.relist e h1 h7 (dpAll_app (DpAll.keep (c.k.tk r.t1) _ _ (pu_all h4) h3) ha) ?_, h6.2⟩⟩
      intro x m
      rcases List.mem_append.mp m with m | m
      · exact h4 x m
      · exact pd_in c.rv.2 x m
    · exact h6.elim
  · exact h.elim
/-! x = xs.pop() -/
def mSetPop0 (i k : Nat) (D : MEnds) (ε : Env) : Prop := match ε[k]? with
  | some (some (.l true true ys)) => i ≠ k ∧ ∃ y, ys[ys.length - 1]? = some y ∧ D.nx ((ε.set k (some (.l true true ys.dropLast))).set i (some (.d y)))
  | _ => False
theorem dpAll_dropLast {H : Hp} : ∀ {vs : List V} {xs : List PyData}, DpAll K H vs xs → DpAll K H vs.dropLast xs.dropLast
  | _, _, .nil => .nil
  | _, _, .cons a .nil => .nil
  | _, _, .cons a (.cons b c) => .cons a (dpAll_dropLast (.cons b c))
theorem ds_setPop0 {i k : Nat} : DS w K (tAsg (tBM0 K "list" rPop (tVar k)) (gName i)) (mSetPop0 i k) := by
  intro T F σ H ε D E r h s
  unfold mSetPop0 at h
  split at h
  · rename_i ys e
    obtain ⟨nk, y, e4, q⟩ := h
    obtain ⟨b, us, g1, g2, g3, g4, g5⟩ := r.at e
    obtain ⟨x, hx, dx⟩ := g3.of e4
    have y1 : Pd y := g4 y (List.mem_of_getElem? e4)
    have r2 := r.relist e g1 g2 (dpAll_dropLast g3) (fun x m => g4 x (List.dropLast_subset _ m))
    have tk2 : TK H (upd H b (.lst us.dropLast)) := TK.put g2
    exact ⟨_, g1, l_tyL (sqL g2), b, us, x, rfl, rfl, g2, by rw [g3.len]; exact hx, s.nx _ _ ⟨_, r2.setD ⟨Dp.keep tk2 _ _ y1.1 dx, y1⟩, q⟩⟩
  · exact h.elim
/-! max of a list -/
def mMaxL (xs : List DV) (Q : MQ) : Prop := match xs with
  | [.l _ _ ys] => match intsOf ys with
    | some ns => 0 < ns.length ∧ ∀ m, m ∈ ns → (∀ y, y ∈ ns → y ≤ m) → Q (.d (.int m))
    | none => False
  | _ => False
theorem dc_maxL : DC w K (rMax K) mMaxL := by
  intro T H vs dvs Q Qm t p h q
  unfold mMaxL at h
  split at h
  · split at h
    · rename_i ns e
      obtain ⟨v, rfl, a, us, rfl, h1, h2, _⟩ := p1 p
      have := ints_of h2 e
      subst this
      exact ⟨a, ns, rfl, sqL h1, h.1, fun m hm hy => q _ _ H (pl t (.int _) (pd_int _)) (h.2 m hm hy)⟩
    · exact h.elim
  · exact h.elim
theorem k_maxL (h : X.K = K) (hc : X.calm = true) : CallR X (.builtin "max") (rMax K) := h ▸ cr_max hc
end
end Mx
namespace Mx
open PySem PySem.Spec PyProof.Rows L2 Tq
variable [Tb]
/-! two clauses: the inner one sees plain data alone -/
def datO : Option DV → Option DV
  | some (.d x) => some (.d x)
  | some (.v x) => some (.v x)
  | some .tp => some .tp
  | _ => none
def datE (ε : Env) : Env := ε.map datO
theorem datO_some {o : Option DV} {dv : DV} (h : datO o = some dv) : o = some dv ∧ dv.obj = false ∧ dv.cold = false := by
  unfold datO at h
  split at h <;> first | cases h | skip
  all_goals exact ⟨rfl, rfl, rfl⟩
theorem datE_get {ε : Env} {i : Nat} {dv : DV} (h : (datE ε)[i]? = some (some dv)) : ε[i]? = some (some dv) ∧ dv.obj = false ∧ dv.cold = false := by
  unfold datE at h
  rw [List.getElem?_map] at h
  obtain ⟨o, e, e2⟩ := Option.map_eq_some_iff.mp h
  obtain ⟨e3, e4⟩ := datO_some e2
  exact ⟨by rw [e, e3], e4⟩
section
variable {w : World} {K : PySem.W.Frag} {T : Tp} {F : Fr} {σ : L2.St} {H H' : Hp} {ε : Env}
theorem Rel.dat (r : Rel w K T F σ H ε) : Rel w K T F σ H (datE ε) where
  keep := r.keep
  t0 := r.t0
  t1 := r.t1
  tk := r.tk
  fz := r.fz
  val i dv e := r.val i dv (datE_get e).1
  new i dv a e n _ := by have := (datE_get e).2.1; rw [new_obj n] at this; cases this
  own i dv a e n _ := by have := (datE_get e).2.1; rw [own_obj n] at this; cases this
  one i j di dj a e n _ _ _ _ := by have := (datE_get e).2.1; rw [own_obj n] at this; cases this
  len := by unfold datE; rw [List.length_map]; exact r.len
theorem Rel.goD (r : Rel w K T F σ H (datE ε)) (k0 : Keep T F.H0 H') (t : TOk T H') (tk : TK H H') (fz : ∀ p ∈ F.fz, H' p.1 = some p.2) : Rel w K T F σ H' (datE ε) where
  keep := k0
  t0 := r.t0
  t1 := t
  tk := r.tk.trans tk
  fz p hp := ⟨fz p hp, (r.fz p hp).2⟩
  val i dv e := by
    obtain ⟨v, h1, h2⟩ := r.val i dv e
    exact ⟨v, h1, h2.step tk (fun ho => by rw [(datE_get e).2.1] at ho; cases ho) fun hc => by rw [(datE_get e).2.2] at hc; cases hc⟩
  new := r.new
  own := r.own
  one := r.one
  len := r.len
end
structure In2 (g1 : MG) (mt1 : MT) (me : ME) (vs1 : List Nat) (ε : Env) (ys acc0 : List PyData) (R : List PyData → Prop) : Prop where
  h : ∃ J : Nat → List PyData → Prop, J 0 acc0 ∧ (∀ (j : Nat) (y : PyData) (acc : List PyData), ys[j]? = some y → J j acc → g1 (.d y) (wipeE ε vs1) fun ε2 => mt1 ε2 fun b => Cnd b (me ε2 fun dv => match dv with
      | .d z => acc.length < sizeLine ∧ J (j + 1) (acc ++ [z])
      | _ => False) (J (j + 1) acc)) ∧ ∀ acc, J ys.length acc → R acc
structure Lc2Goal (g : MG) (mt : MT) (mi1 : MI) (g1 : MG) (mt1 : MT) (me : ME) (vs vs1 : List Nat) (ε : Env) (xs : List PyData) (Q : MQ) : Prop where
  h : ∃ I : Nat → List PyData → Prop, I 0 [] ∧
    (∀ (i : Nat) (x : PyData) (acc : List PyData), xs[i]? = some x → I i acc → g (.d x) (wipeE ε vs) fun ε' => mt ε' fun b => Cnd b (mi1 (datE ε') fun ε1 ys => In2 g1 mt1 me vs1 (datE ε1) ys acc (I (i + 1))) (I (i + 1) acc)) ∧ ∀ acc, I xs.length acc → Q (.l true true acc)
def mLc2 (mi : MI) (g : MG) (mt : MT) (mi1 : MI) (g1 : MG) (mt1 : MT) (me : ME) (vs vs1 : List Nat) (ε0 : Env) (Q : MQ) : Prop := mi ε0 fun ε xs => Lc2Goal g mt mi1 g1 mt1 me vs vs1 ε xs Q
structure Acc (w : World) (K : PySem.W.Frag) (T : Tp) (H1 H : Hp) (D : Addr) (acc : List PyData) (us : List V) : Prop where
  at_ : H D = some (.lst us)
  dp : DpAll K H us acc
  pd : ∀ x ∈ acc, Pd x
  k : Keep T H1 H
  t : TOk T H
section
variable {w : World} {K : PySem.W.Frag} {T : Tp} {H1 H H' : Hp} {D : Addr} {acc : List PyData} {us : List V}
theorem Acc.keep (a : Acc w K T H1 H D acc us) (k : Keep T H H') (t : TOk T H') (n : ∀ q ∈ T, D ≠ q.1) : Acc w K T H1 H' D acc us :=
  ⟨k D _ n a.at_, DpAll.keep (k.tk a.t) _ _ (pu_all a.pd) a.dp, a.pd, a.k.trans k, t⟩
theorem Acc.push {v : V} {y : PyData} (a : Acc w K T H1 H D acc us) (t1 : TOk T H1) (hD : H1 D = none) (h : RV w K T H v (.d y)) : Acc w K T H1 (upd H D (.lst (us ++ [v]))) D (acc ++ [y]) (us ++ [v]) where
  at_ := upd_same
  dp := (DpAll.keep (TK.put a.at_) _ _ (pu_all a.pd) a.dp).snoc (Dp.keep (TK.put a.at_) _ _ h.2.1 h.1)
  pd x m := by
    rcases List.mem_append.mp m with m | m
    · exact a.pd x m
    · rw [List.mem_singleton.mp m]; exact h.2
  k b u n e := by
    have nb : b ≠ D := by rintro rfl; rw [hD] at e; cases e
    rw [upd_ne nb]
    exact a.k b u n e
  t := t1.put hD a.t
end
section
variable {w : World} {K : PySem.W.Frag} {te : TE} {me : ME} {tt tt1 : TT} {mt mt1 : MT} {g g1 : TG} {mg mg1 : MG}
theorem de_lc2 {wi wi1 : TI} {mi mi1 : MI} {ss ss1 vs vs1 : List Nat} (hi : DI w K wi mi) (hg : DG w K g mg ss) (ht : DT w K tt mt) (hi1 : DI w K wi1 mi1) (hg1 : DG w K g1 mg1 ss1) (ht1 : DT w K tt1 mt1) (he : DE w K te me) (sub : ∀ i ∈ ss, i ∈ vs) (sub1 : ∀ i ∈ ss1, i ∈ vs1) :
    DE w K (tLc2 wi g tt wi1 g1 tt1 te vs vs1) (mLc2 mi mg mt mi1 mg1 mt1 me vs vs1) := by
  intro T F σ H ε Q Qm r h q
  refine hi T F σ H ε _ _ r h fun J H1 ε1 xs fzs k1 t1 r1 tk1 wk _ h1 => ?_
  obtain ⟨I, i0, hs, hd⟩ := h1.h
  intro D hD
  have nt := ne_tape t1 hD
  refine ⟨fun i m H' => m = xs.length - i ∧ i ≤ xs.length ∧ ∃ acc us, Acc w K T H1 H' D acc us ∧ I i acc, ⟨_, rfl, Nat.zero_le _, [], [], ⟨upd_same, .nil, (fun _ m => nomatch m), Keep.new hD, t1.new hD⟩, i0⟩, ?_⟩
  rintro i m H' ⟨rfl, le, acc, us, a, hI⟩
  have r' := r1.go a.k a.t
  have wk' := wk i H' (a.k.tk t1) (fun p hp => (r'.fz p (List.mem_append_left _ hp)).1) a.t
  by_cases lt : i < xs.length
  · obtain ⟨go, yl⟩ := wk'.2 _ (List.getElem?_eq_getElem lt)
    refine .inr ⟨go, fun H2 => ∃ acc us, Acc w K T H1 H2 D acc us ∧ I (i + 1) acc, fun H2 n => ⟨xs.length - (i + 1), by omega, rfl, lt, n⟩, fun x H2 y => ?_⟩
    obtain ⟨k2, t2, rv⟩ := yl x H2 y
    refine hg T _ _ H2 (wipeE ε1 vs) _ _ _ _ ((r'.go k2 t2).wipe vs) rv (hs i _ acc (List.getElem?_eq_getElem lt) hI) fun σ3 ε3 r3 wp h3 => ?_
    refine ⟨(wp vs sub).trans (wipe_wipe σ vs), ht T _ σ3 H2 ε3 _ _ r3 h3 fun b H3 k3 t3 h4 => ?_⟩
    have a3 := (a.keep k2 t2 nt).keep k3 t3 nt
    cases b with
    | true =>
      have h3D : H3 D ≠ none := fun e => by rw [a3.at_] at e; cases e
      refine hi1 T _ σ3 H3 (datE ε3) _ _ (r3.go k3 t3).dat h4.h fun J1 H4 ε4 ys fzs1 k4 t4 r4 tk4 wk4 fr4 h5 => ?_
      obtain ⟨J', j0, hs1, hd1⟩ := h5.h
      have a4 := a3.keep k4 t4 nt
      have nf1 : ∀ p ∈ fzs1, p.1 ≠ D := fun p hp e => by
        rcases fr4 p hp with n | ⟨i, dv, e1, e2, _⟩
        · rw [e] at n; exact h3D n
        · rw [(datE_get e1).2.1] at e2; cases e2
      have nf2 : ∀ p ∈ fzs ++ F.fz, p.1 ≠ D := fun p hp e => by
        have := (r1.fz p hp).1
        rw [e, hD] at this; cases this
      refine ⟨fun j k H' => k = ys.length - j ∧ j ≤ ys.length ∧ ∃ acc us, Acc w K T H1 H' D acc us ∧ TK H4 H' ∧ (∀ b u, (∀ p ∈ T, b ≠ p.1) → b ≠ D → H4 b = some u → H' b = some u) ∧ J' j acc, ⟨_, rfl, Nat.zero_le _, acc, us, a4, TK.refl, (fun b u _ _ e => e), j0⟩, ?_⟩
      rintro j k H5 ⟨rfl, le5, acc5, us5, a5, tk5, kk5, hJ⟩
      have fz5 : ∀ p ∈ fzs1 ++ (fzs ++ F.fz), H5 p.1 = some p.2 := fun p hp => by
        refine kk5 _ _ (r4.fz p hp).2 ?_ (r4.fz p hp).1
        rcases List.mem_append.mp hp with hp | hp
        · exact nf1 p hp
        · exact nf2 p hp
      have r5 : Rel w K T ⟨F.H0, H4, fzs1 ++ (fzs ++ F.fz)⟩ σ3 H5 (datE ε4) := (Rel.dat r4).goD (r1.keep.trans a5.k) a5.t tk5 fz5
      have wk5 := wk4 j H5 tk5 (fun p hp => fz5 p (List.mem_append_left _ hp)) a5.t
      by_cases lt5 : j < ys.length
      · obtain ⟨go5, yl5⟩ := wk5.2 _ (List.getElem?_eq_getElem lt5)
        refine .inr ⟨go5, fun H6 => ∃ acc us, Acc w K T H1 H6 D acc us ∧ TK H4 H6 ∧ (∀ b u, (∀ p ∈ T, b ≠ p.1) → b ≠ D → H4 b = some u → H6 b = some u) ∧ J' (j + 1) acc, fun H6 n => ⟨ys.length - (j + 1), by omega, rfl, lt5, n⟩, fun x6 H6 y6 => ?_⟩
        obtain ⟨k6, t6, rv6⟩ := yl5 x6 H6 y6
        refine hg1 T _ _ H6 (wipeE (datE ε4) vs1) _ _ _ _ ((r5.go k6 t6).wipe vs1) rv6 (hs1 j _ acc5 (List.getElem?_eq_getElem lt5) hJ) fun σ7 ε7 r7 wp7 h7 => ?_
        refine ⟨(wp7 vs1 sub1).trans (wipe_wipe σ3 vs1), ht1 T _ σ7 H6 ε7 _ _ r7 h7 fun b H7 k7 t7 h8 => ?_⟩
        have a7 := (a5.keep k6 t6 nt).keep k7 t7 nt
        have tk7 : TK H4 H7 := (tk5.trans (k6.tk a5.t)).trans (k7.tk t6)
        have kk7 : ∀ b u, (∀ p ∈ T, b ≠ p.1) → b ≠ D → H4 b = some u → H7 b = some u := fun b u n nb e => k7 b u n (k6 b u n (kk5 b u n nb e))
        cases b with
        | true =>
          refine he T _ σ7 H7 ε7 _ _ (r7.go k7 t7) h8.h fun dv v H8 c h9 => ?_
          split at h9
          · rename_i z
            have a8 := a7.keep c.k c.t nt
            refine ⟨us5, a8.at_, by rw [a8.dp.len]; exact h9.1, acc5 ++ [z], us5 ++ [v], a8.push t1 hD c.rv, ?_, ?_, h9.2⟩
            · exact (tk7.trans (c.k.tk t7)).trans (TK.put a8.at_)
            · intro b u n nb e
              rw [upd_ne nb]
              exact c.k b u n (kk7 b u n nb e)
          · exact h9.elim
        | false => exact ⟨acc5, us5, a7, tk7, kk7, h8.h⟩
      · have e5 : j = ys.length := by omega
        subst e5
        exact .inl ⟨wk5.1 rfl, acc5, us5, a5, hd1 acc5 hJ⟩
    | false => exact ⟨acc, us, a3, h4.h⟩
  · have e : i = xs.length := by omega
    subst e
    refine .inl ⟨wk'.1 rfl, q _ _ H' ⟨k1.trans a.k, a.t, (show RV w K T H' (.ref D) (.l true true acc) from ⟨D, us, rfl, a.at_, a.dp, a.pd, nt⟩), (fun _ a e => by cases e; exact k1.free t1 hD), fun _ => rfl⟩ (hd acc hI)⟩
end
end Mx
/-! a tree's parts, texts, levels -/
namespace Tq
open Mx PySem
def flatP : List (Tr × Tr) → List Tr
  | [] => []
  | (a, b) :: r => a :: b :: flatP r
def Tr.parts : Tr → List Tr
  | .cmp _ l r => [.op l, .op r]
  | .neg a => [a]
  | .jn _ ps => ps
  | .ite ps e => flatP ps ++ [e]
  | _ => []
def Opd.tx : Opd → List Str
  | .cell (.txt z) => [z]
  | _ => []
mutual
def Tr.tx : Tr → List Str
  | .cmp _ l r => l.tx ++ r.tx
  | .neg a => a.tx
  | .jn _ ps => trsTx ps
  | .op o => o.tx
  | .ite ps e => brsTx ps ++ e.tx
  | _ => []
def trsTx : List Tr → List Str
  | [] => []
  | t :: ts => t.tx ++ trsTx ts
def brsTx : List (Tr × Tr) → List Str
  | [] => []
  | (a, b) :: r => a.tx ++ b.tx ++ brsTx r
end
mutual
def Tr.lv : Tr → Nat
  | .neg a => a.lv + 1
  | .jn _ [] => 0
  | .jn _ (p :: ps) => max p.lv (trsLv ps) + 1
  | .ite ps e => max (brsLv ps) e.lv + 1
  | _ => 0
def trsLv : List Tr → Nat
  | [] => 0
  | t :: ts => max t.lv (trsLv ts)
def brsLv : List (Tr × Tr) → Nat
  | [] => 0
  | (a, b) :: r => max (max a.lv b.lv) (brsLv r)
end
theorem flatP_ok {d : Nat} : ∀ {ps : List (Tr × Tr)}, brsOk ps → brsDep ps ≤ d → ∀ t ∈ flatP ps, t.Ok ∧ t.dep ≤ d
  | [], _, _, _, m => nomatch m
  | (a, b) :: r, h, k, t, m => by
    have k : max (max a.dep b.dep) (brsDep r) ≤ d := k
    rcases List.mem_cons.mp m with rfl | m
    · exact ⟨h.1, by omega⟩
    · rcases List.mem_cons.mp m with rfl | m
      · exact ⟨h.2.1, by omega⟩
      · exact flatP_ok h.2.2 (by omega) t m
theorem flatP_len : ∀ ps : List (Tr × Tr), (flatP ps).length = 2 * ps.length
  | [] => rfl
  | (a, b) :: r => by rw [flatP, List.length_cons, List.length_cons, flatP_len r, List.length_cons]; omega
theorem parts_ok : ∀ {t : Tr}, t.Ok → ∀ p ∈ t.parts, p.Ok ∧ p.dep + 1 ≤ t.dep
  | .tru, _, _, m => nomatch m
  | .fls, _, _, m => nomatch m
  | .ex _, _, _, m => nomatch m
  | .op _, _, _, m => nomatch m
  | .cmp _ l r, h, p, m => by
    rcases List.mem_cons.mp m with rfl | m
    · exact ⟨h.1, Nat.le_refl _⟩
    · rw [List.mem_singleton.mp m]; exact ⟨h.2, Nat.le_refl _⟩
  | .neg a, h, p, m => by rw [List.mem_singleton.mp m]; exact ⟨h, Nat.le_refl _⟩
  | .jn _ ps, h, p, m => ⟨(trsOk_iff ps).mp h.2 p m, Nat.succ_le_succ (trsDep_le.mp (Nat.le_refl (trsDep ps)) p m)⟩
  | .ite ps e, h, p, m => by
    have a1 := Nat.le_max_left (brsDep ps) e.dep
    have a2 := Nat.le_max_right (brsDep ps) e.dep
    show _ ∧ p.dep + 1 ≤ max (brsDep ps) e.dep + 1
    rcases List.mem_append.mp m with m | m
    · have := flatP_ok h.2.1 (Nat.le_refl _) p m
      exact ⟨this.1, by omega⟩
    · rw [List.mem_singleton.mp m]; exact ⟨h.2.2, by omega⟩
theorem parts_len : ∀ {t : Tr}, t.Ok → t.parts.length ≤ 201
  | .tru, _ => by decide
  | .fls, _ => by decide
  | .ex _, _ => by show 0 ≤ 201; omega
  | .op _, _ => by show 0 ≤ 201; omega
  | .cmp _ l r, _ => by show 2 ≤ 201; omega
  | .neg a, _ => by show 1 ≤ 201; omega
  | .jn _ ps, h => Nat.le_trans h.1 (by omega)
  | .ite ps e, h => by
    have := h.1
    show (flatP ps ++ [e]).length ≤ 201
    rw [List.length_append, flatP_len]
    show _ + 1 ≤ 201
    omega
theorem trsNd_sum : ∀ ts : List Tr, trsNd ts = (ts.map Tr.nd).sum
  | [] => rfl
  | t :: ts => by rw [trsNd, trsNd_sum ts]; rfl
theorem trsNd_app : ∀ a b : List Tr, trsNd (a ++ b) = trsNd a + trsNd b
  | [], b => by rw [List.nil_append]; show _ = 0 + _; omega
  | t :: a, b => by rw [List.cons_append, trsNd, trsNd, trsNd_app a b]; omega
theorem flatP_nd : ∀ ps : List (Tr × Tr), trsNd (flatP ps) = brsNd ps
  | [] => rfl
  | (a, b) :: r => by rw [flatP, trsNd, trsNd, flatP_nd r, brsNd]; omega
theorem nd_parts : ∀ t : Tr, t.nd = trsNd t.parts + 1
  | .tru => rfl
  | .fls => rfl
  | .ex _ => rfl
  | .op _ => rfl
  | .cmp _ l r => rfl
  | .neg a => by show a.nd + 1 = a.nd + 0 + 1; rfl
  | .jn _ ps => rfl
  | .ite ps e => by
    show brsNd ps + e.nd + 1 = trsNd (flatP ps ++ [e]) + 1
    rw [trsNd_app, flatP_nd]
    show _ = _ + (e.nd + 0) + 1
    omega
theorem trsTx_mem {z : Str} : ∀ {ts : List Tr}, z ∈ trsTx ts ↔ ∃ t ∈ ts, z ∈ t.tx
  | [] => ⟨fun m => (nomatch m), fun ⟨_, m, _⟩ => nomatch m⟩
  | t :: ts => by rw [trsTx, List.mem_append, trsTx_mem]; simp
theorem trsTx_app : ∀ a b : List Tr, trsTx (a ++ b) = trsTx a ++ trsTx b
  | [], b => rfl
  | t :: a, b => by rw [List.cons_append, trsTx, trsTx, trsTx_app a b, List.append_assoc]
theorem flatP_tx : ∀ ps : List (Tr × Tr), trsTx (flatP ps) = brsTx ps
  | [] => rfl
  | (a, b) :: r => by rw [flatP, trsTx, trsTx, flatP_tx r, brsTx, List.append_assoc]
/-- its own text, the texts of its parts -/
def Tr.own : Tr → List Str
  | .op o => o.tx
  | _ => []
theorem tx_parts : ∀ t : Tr, t.tx = t.own ++ trsTx t.parts
  | .tru => rfl
  | .fls => rfl
  | .ex _ => rfl
  | .op o => by show o.tx = o.tx ++ []; rw [List.append_nil]
  | .cmp _ l r => by show l.tx ++ r.tx = l.tx ++ (r.tx ++ []); rw [List.append_nil]
  | .neg a => by show a.tx = a.tx ++ []; rw [List.append_nil]
  | .jn _ ps => rfl
  | .ite ps e => by
    show brsTx ps ++ e.tx = trsTx (flatP ps ++ [e])
    rw [trsTx_app, flatP_tx]
    show _ = _ ++ (e.tx ++ [])
    rw [List.append_nil]
theorem own_len : ∀ t : Tr, t.own.length ≤ 1
  | .tru => by decide
  | .fls => by decide
  | .ex _ => by show 0 ≤ 1; omega
  | .op (.cell .null) => by decide
  | .op (.cell (.txt z)) => by show 1 ≤ 1; omega
  | .op (.cell (.val z)) => by show 0 ≤ 1; omega
  | .op (.col _ _) => by show 0 ≤ 1; omega
  | .cmp _ l r => by show 0 ≤ 1; omega
  | .neg a => by show 0 ≤ 1; omega
  | .jn _ ps => by show 0 ≤ 1; omega
  | .ite ps e => by show 0 ≤ 1; omega
theorem lv_parts : ∀ t : Tr, (∀ e l r, t ≠ .cmp e l r) → t.parts ≠ [] → (∃ p ∈ t.parts, t.lv = p.lv + 1) ∧ ∀ p ∈ t.parts, p.lv + 1 ≤ t.lv := by
  have hT : ∀ (p : Tr) (ps : List Tr), (∃ q ∈ p :: ps, max p.lv (trsLv ps) = q.lv) ∧ ∀ q ∈ p :: ps, q.lv ≤ max p.lv (trsLv ps) := by
    intro p ps
    induction ps generalizing p with
    | nil =>
      have e : max p.lv (trsLv []) = p.lv := Nat.max_eq_left (Nat.zero_le _)
      rw [e]
      exact ⟨⟨p, List.mem_cons_self, rfl⟩, fun q m => by rw [List.mem_singleton.mp m]; exact Nat.le_refl _⟩
    | cons a r ih =>
      obtain ⟨⟨q, m, e⟩, h⟩ := ih a
      show (∃ q ∈ p :: a :: r, max p.lv (max a.lv (trsLv r)) = q.lv) ∧ ∀ q ∈ p :: a :: r, q.lv ≤ max p.lv (max a.lv (trsLv r))
      refine ⟨?_, fun q m => ?_⟩
      · by_cases c : p.lv ≤ max a.lv (trsLv r)
        · exact ⟨q, List.mem_cons_of_mem _ m, by omega⟩
        · exact ⟨p, List.mem_cons_self, by omega⟩
      · rcases List.mem_cons.mp m with rfl | m
        · omega
        · have := h q m; omega
  have hB : ∀ (ps : List (Tr × Tr)) (e : Tr), (∃ q ∈ flatP ps ++ [e], max (brsLv ps) e.lv = q.lv) ∧ ∀ q ∈ flatP ps ++ [e], q.lv ≤ max (brsLv ps) e.lv := by
    intro ps e
    induction ps with
    | nil => exact ⟨⟨e, List.mem_cons_self, Nat.max_eq_right (Nat.zero_le _)⟩, fun q m => by rw [List.mem_singleton.mp m]; exact Nat.le_max_right _ _⟩
    | cons x r ih =>
      obtain ⟨a, b⟩ := x
      obtain ⟨⟨q, m, e1⟩, h⟩ := ih
      show (∃ q ∈ a :: b :: (flatP r ++ [e]), max (max (max a.lv b.lv) (brsLv r)) e.lv = q.lv) ∧ ∀ q ∈ a :: b :: (flatP r ++ [e]), q.lv ≤ max (max (max a.lv b.lv) (brsLv r)) e.lv
      refine ⟨?_, fun q m => ?_⟩
      · by_cases c : max a.lv b.lv ≤ max (brsLv r) e.lv
        · exact ⟨q, List.mem_cons_of_mem _ (List.mem_cons_of_mem _ m), by omega⟩
        · by_cases c2 : a.lv ≤ b.lv
          · exact ⟨b, by simp, by omega⟩
          · exact ⟨a, by simp, by omega⟩
      · rcases List.mem_cons.mp m with rfl | m
        · omega
        · rcases List.mem_cons.mp m with rfl | m
          · omega
          · have := h q m; omega
  intro t nc ne
  cases t with
  | tru => exact (ne rfl).elim
  | fls => exact (ne rfl).elim
  | ex _ => exact (ne rfl).elim
  | op _ => exact (ne rfl).elim
  | cmp e l r => exact (nc e l r rfl).elim
  | neg a => exact ⟨⟨a, List.mem_cons_self, rfl⟩, fun p m => by rw [List.mem_singleton.mp m]; exact Nat.le_refl _⟩
  | jn c ps =>
    cases ps with
    | nil => exact (ne rfl).elim
    | cons p ps =>
      obtain ⟨⟨q, m, e⟩, h⟩ := hT p ps
      exact ⟨⟨q, m, congrArg (· + 1) e⟩, fun q m => Nat.succ_le_succ (h q m)⟩
  | ite ps e =>
    obtain ⟨⟨q, m, e1⟩, h⟩ := hB ps e
    exact ⟨⟨q, m, congrArg (· + 1) e1⟩, fun q m => Nat.succ_le_succ (h q m)⟩
theorem lv_zero : ∀ t : Tr, ((∃ e l r, t = .cmp e l r) ∨ t.parts = []) → t.lv = 0
  | .tru, _ => rfl
  | .fls, _ => rfl
  | .ex _, _ => rfl
  | .op _, _ => rfl
  | .cmp _ _ _, _ => rfl
  | .neg a, h => by
    rcases h with ⟨_, _, _, e⟩ | e
    · cases e
    · cases e
  | .jn _ ps, h => by
    rcases h with ⟨_, _, _, e⟩ | e
    · cases e
    · have e : ps = [] := e
      subst e; rfl
  | .ite ps e, h => by
    rcases h with ⟨_, _, _, e⟩ | e1
    · cases e
    · have := congrArg List.length e1
      have e2 : (Tr.ite ps e).parts.length = (flatP ps ++ [e]).length := rfl
      rw [e2, List.length_append] at this
      cases this
end Tq
namespace Tq
open Mx PySem
def Tr.lp : Tr → List Tr
  | .cmp _ _ _ => []
  | t => t.parts
end Tq
namespace Mx
open PySem PySem.Spec PyProof.Rows L2 Tq
def fAsc : List DV → MQ → Prop := fun dvs Q => ∃ zs : List Str, dvs = [.d (.tuple (sL zs))] ∧ zs.length + 1 < scanBound ∧ ∀ ys, IsAsc ys zs → Q (.d (.tuple (sL ys)))
def fParts : List DV → MQ → Prop := fun dvs Q => ∃ tr : Tr, dvs = [.d tr.d] ∧ tr.Ok ∧ Q (.d (.tuple (tr.parts.map Tr.d)))
def fSize : Nat → List DV → MQ → Prop
  | 0 => fun _ _ => False
  | d + 1 => fun dvs Q => ∃ tr : Tr, dvs = [.d tr.d] ∧ tr.Ok ∧ tr.dep ≤ d ∧ Q (.d (.int tr.nd))
def fDepth : Nat → List DV → MQ → Prop
  | 0 => fun _ _ => False
  | d + 1 => fun dvs Q => ∃ tr : Tr, dvs = [.d tr.d] ∧ tr.Ok ∧ tr.dep ≤ d ∧ Q (.d (.int tr.lv))
def fTxOf : List DV → MQ → Prop := fun dvs Q => ∃ tr : Tr, dvs = [.d tr.d] ∧ tr.Ok ∧ tr.nd ≤ 1000 ∧ ∀ ys, IsAsc ys tr.tx → Q (.d (.tuple (sL ys)))
def fLParts : List DV → MQ → Prop := fun dvs Q => ∃ tr : Tr, dvs = [.d tr.d] ∧ tr.Ok ∧ Q (.l true true (tr.lp.map Tr.d))
def fIs : List DV → MQ → Prop := fun dvs Q => ∃ a b : Int, dvs = [.d (.int a), .d (.int b)] ∧ Q (.d (.bool (decide (a = b))))
def isC : List PyData → Option PyData
  | [.str h, y] => if h = "cell" then some y else none
  | _ => none
def txt1 : PyData → List Str
  | .str z => [z]
  | _ => []
def tN : Nat → PyData → List Str
  | 0, _ => []
  | n + 1, .tuple xs => match isC xs with
    | some y => txt1 y
    | none => (xs.map (tN n)).flatten
  | _ + 1, _ => []
def Dn : Nat → PyData → Prop
  | 0, _ => False
  | n + 1, .tuple xs => ∀ y ∈ xs, Dn n y
  | _ + 1, .str _ => True
  | _ + 1, .none => True
  | _ + 1, _ => False
def fTxIn : Nat → List DV → MQ → Prop
  | 0 => fun _ _ => False
  | d + 1 => fun dvs Q => ∃ x, dvs = [.d x] ∧ Dn (d + 1) x ∧ d ≤ 63 ∧ (tN (d + 1) x).length ≤ 1000 ∧ ∀ zs : List Str, zs.Nodup → (∀ z, z ∈ zs ↔ z ∈ tN (d + 1) x) → Q (.l true true (sL zs))
theorem dn_depth : ∀ {n : Nat} {x : PyData}, Dn n x → x.depth ≤ n
  | 0, _, h => h.elim
  | n + 1, .tuple xs, h => depth_tup fun d m => dn_depth (h d m)
  | n + 1, .str _, _ => Nat.zero_le _
  | n + 1, .none, _ => Nat.zero_le _
theorem isC_t (xs r : List PyData) : isC (.tuple xs :: r) = none := by
  unfold isC
  split
  · rename_i h; cases h
  · rfl
theorem dn_str {n : Nat} (h : 1 ≤ n) (z : Str) : Dn n (.str z) := by
  obtain ⟨m, rfl⟩ : ∃ m, n = m + 1 := ⟨n - 1, by omega⟩
  exact trivial
theorem tN_str {n : Nat} (z : Str) : tN n (.str z) = [] := by cases n <;> rfl
theorem opd_tup (o : Opd) : ∃ xs, o.d = .tuple xs := by
  cases o with
  | cell c => exact ⟨_, rfl⟩
  | col t c => exact ⟨_, rfl⟩
theorem tr_tup (t : Tr) : ∃ xs, t.d = .tuple xs := by
  cases t with
  | op o => exact opd_tup o
  | _ => exact ⟨_, rfl⟩
theorem tr_isC (t : Tr) (r : List PyData) : isC (t.d :: r) = none := by
  obtain ⟨xs, e⟩ := tr_tup t
  rw [e]; exact isC_t xs r
theorem isC_2 {h : Str} {y : PyData} (e : ¬ h = "cell") : isC [.str h, y] = none := if_neg e
theorem isC_3 (h : PyData) (y z : PyData) : isC [h, y, z] = none := by cases h <;> rfl
theorem opd_dn (o : Opd) {n : Nat} (h : 4 ≤ n) : Dn n o.d ∧ tN n o.d = o.tx := by
  obtain ⟨m, rfl⟩ : ∃ m, n = m + 4 := ⟨n - 4, by omega⟩
  cases o with
  | cell c =>
    cases c with
    | null =>
      refine ⟨fun y hy => ?_, rfl⟩
      rcases List.mem_cons.mp hy with rfl | hy
      · trivial
      · rw [List.mem_singleton.mp hy]; trivial
    | txt z =>
      refine ⟨fun y hy => ?_, rfl⟩
      rcases List.mem_cons.mp hy with rfl | hy
      · trivial
      · rw [List.mem_singleton.mp hy]; trivial
    | val z =>
      refine ⟨fun y hy => ?_, rfl⟩
      rcases List.mem_cons.mp hy with rfl | hy
      · trivial
      · rw [List.mem_singleton.mp hy]
        intro y hy
        rw [List.mem_singleton.mp hy]; trivial
  | col t c =>
    refine ⟨fun y hy => ?_, rfl⟩
    rcases List.mem_cons.mp hy with rfl | hy
    · trivial
    · rcases List.mem_cons.mp hy with rfl | hy
      · trivial
      · rw [List.mem_singleton.mp hy]; trivial
mutual
theorem tr_dn : ∀ (t : Tr) (n : Nat), 3 * t.dep + 1 ≤ n → Dn n t.d ∧ tN n t.d = t.tx
  | .tru, n, h => by
    have h : 4 ≤ n := h
    obtain ⟨m, rfl⟩ : ∃ m, n = m + 4 := ⟨n - 4, by omega⟩
    exact ⟨fun y hy => by rw [List.mem_singleton.mp hy]; trivial, rfl⟩
  | .fls, n, h => by
    have h : 4 ≤ n := h
    obtain ⟨m, rfl⟩ : ∃ m, n = m + 4 := ⟨n - 4, by omega⟩
    exact ⟨fun y hy => by rw [List.mem_singleton.mp hy]; trivial, rfl⟩
  | .ex t, n, h => by
    have h : 4 ≤ n := h
    obtain ⟨m, rfl⟩ : ∃ m, n = m + 4 := ⟨n - 4, by omega⟩
    refine ⟨fun y hy => ?_, rfl⟩
    rcases List.mem_cons.mp hy with rfl | hy
    · trivial
    · rw [List.mem_singleton.mp hy]; trivial
  | .op o, n, h => opd_dn o h
  | .cmp e l r, n, h => by
    have h : 7 ≤ n := h
    obtain ⟨m, rfl⟩ : ∃ m, n = m + 1 := ⟨n - 1, by omega⟩
    have a := opd_dn l (n := m) (by omega)
    have b := opd_dn r (n := m) (by omega)
    refine ⟨fun y hy => ?_, ?_⟩
    · rcases List.mem_cons.mp hy with rfl | hy
      · exact dn_str (by omega) _
      · rcases List.mem_cons.mp hy with rfl | hy
        · exact a.1
        · rw [List.mem_singleton.mp hy]; exact b.1
    · show (match isC [.str (if e then "=" else "!="), l.d, r.d] with
        | some y => txt1 y
        | none => ([PyData.str (if e then "=" else "!="), l.d, r.d].map (tN m)).flatten) = l.tx ++ r.tx
      rw [isC_3]
      show tN m (.str _) ++ (tN m l.d ++ (tN m r.d ++ [])) = _
      rw [tN_str, a.2, b.2, List.append_nil]; rfl
  | .neg a, n, h => by
    have h : 3 * (a.dep + 1) + 1 ≤ n := h
    obtain ⟨m, rfl⟩ : ∃ m, n = m + 1 := ⟨n - 1, by omega⟩
    have ih := tr_dn a m (by omega)
    refine ⟨fun y hy => ?_, ?_⟩
    · rcases List.mem_cons.mp hy with rfl | hy
      · exact dn_str (by omega) _
      · rw [List.mem_singleton.mp hy]; exact ih.1
    · show (match isC [.str "not", a.d] with
        | some y => txt1 y
        | none => ([PyData.str "not", a.d].map (tN m)).flatten) = a.tx
      rw [isC_2 (by decide +kernel)]
      show tN m (.str _) ++ (tN m a.d ++ []) = _
      rw [tN_str, ih.2, List.append_nil]; rfl
  | .jn c ps, n, h => by
    have h : 3 * (trsDep ps + 1) + 1 ≤ n := h
    obtain ⟨m, rfl⟩ : ∃ m, n = m + 2 := ⟨n - 2, by omega⟩
    have ih := trs_dn ps m (by omega)
    have ic : isC (trsD ps) = none := by cases ps with
      | nil => rfl
      | cons t ts => exact tr_isC t _
    refine ⟨fun y hy => ?_, ?_⟩
    · rcases List.mem_cons.mp hy with rfl | hy
      · exact dn_str (by omega) _
      · rw [List.mem_singleton.mp hy]; exact ih.1
    · show (match isC [.str (if c then "and" else "or"), .tuple (trsD ps)] with
        | some y => txt1 y
        | none => ([PyData.str (if c then "and" else "or"), .tuple (trsD ps)].map (tN (m + 1))).flatten) = trsTx ps
      rw [isC_2 (by cases c <;> decide +kernel)]
      show tN (m + 1) (.str _) ++ (tN (m + 1) (.tuple (trsD ps)) ++ []) = _
      rw [tN_str, List.append_nil, List.nil_append]
      show (match isC (trsD ps) with
        | some y => txt1 y
        | none => ((trsD ps).map (tN m)).flatten) = _
      rw [ic]; exact ih.2
  | .ite ps e, n, h => by
    have h : 3 * (max (brsDep ps) e.dep + 1) + 1 ≤ n := h
    obtain ⟨m, rfl⟩ : ∃ m, n = m + 3 := ⟨n - 3, by omega⟩
    have ih := brs_dn ps m (by omega)
    have ie := tr_dn e (m + 2) (by omega)
    have ic : isC (brsD ps) = none := by cases ps with
      | nil => rfl
      | cons t ts => obtain ⟨a, b⟩ := t; exact isC_t _ _
    refine ⟨fun y hy => ?_, ?_⟩
    · rcases List.mem_cons.mp hy with rfl | hy
      · exact dn_str (by omega) _
      · rcases List.mem_cons.mp hy with rfl | hy
        · exact ih.1
        · rw [List.mem_singleton.mp hy]; exact ie.1
    · show (match isC [.str "if", .tuple (brsD ps), e.d] with
        | some y => txt1 y
        | none => ([PyData.str "if", .tuple (brsD ps), e.d].map (tN (m + 2))).flatten) = brsTx ps ++ e.tx
      rw [isC_3]
      show tN (m + 2) (.str _) ++ (tN (m + 2) (.tuple (brsD ps)) ++ (tN (m + 2) e.d ++ [])) = _
      rw [tN_str, List.append_nil, List.nil_append, ie.2]
      congr 1
      show (match isC (brsD ps) with
        | some y => txt1 y
        | none => ((brsD ps).map (tN (m + 1))).flatten) = _
      rw [ic]; exact ih.2
theorem trs_dn : ∀ (ts : List Tr) (n : Nat), 3 * trsDep ts + 1 ≤ n → (∀ y ∈ trsD ts, Dn n y) ∧ ((trsD ts).map (tN n)).flatten = trsTx ts
  | [], _, _ => ⟨fun _ m => (nomatch m), rfl⟩
  | t :: ts, n, h => by
    have h : 3 * max t.dep (trsDep ts) + 1 ≤ n := h
    have a := tr_dn t n (by omega)
    have b := trs_dn ts n (by omega)
    refine ⟨fun y hy => ?_, ?_⟩
    · rcases List.mem_cons.mp hy with rfl | hy
      · exact a.1
      · exact b.1 y hy
    · show tN n t.d ++ ((trsD ts).map (tN n)).flatten = t.tx ++ trsTx ts
      rw [a.2, b.2]
theorem brs_dn : ∀ (ts : List (Tr × Tr)) (n : Nat), 3 * brsDep ts + 1 ≤ n → (∀ y ∈ brsD ts, Dn (n + 1) y) ∧ ((brsD ts).map (tN (n + 1))).flatten = brsTx ts
  | [], _, _ => ⟨fun _ m => (nomatch m), rfl⟩
  | (x, y) :: ts, n, h => by
    have h : 3 * max (max x.dep y.dep) (brsDep ts) + 1 ≤ n := h
    have a := tr_dn x n (by omega)
    have b := tr_dn y n (by omega)
    have c := brs_dn ts n (by omega)
    refine ⟨fun u hu => ?_, ?_⟩
    · rcases List.mem_cons.mp hu with rfl | hu
      · intro v hv
        rcases List.mem_cons.mp hv with rfl | hv
        · exact a.1
        · rw [List.mem_singleton.mp hv]; exact b.1
      · exact c.1 u hu
    · show tN (n + 1) (.tuple [x.d, y.d]) ++ ((brsD ts).map (tN (n + 1))).flatten = x.tx ++ y.tx ++ brsTx ts
      rw [c.2]
      congr 1
      show (match isC [x.d, y.d] with
        | some y => txt1 y
        | none => ([x.d, y.d].map (tN n)).flatten) = _
      rw [tr_isC]
      show tN n x.d ++ (tN n y.d ++ []) = _
      rw [a.2, b.2, List.append_nil]
end
theorem opd_in_tx {Ts : List Tab} {pl ws : List Str} {tx : Bool} {o : Opd} (h : o.In Ts pl ws tx) : ∀ z ∈ o.tx, z ∈ pl := fun z m => by
  cases o with
  | cell c => cases c with
    | null => cases m
    | txt u => rw [List.mem_singleton.mp m]; exact h.2
    | val n => cases m
  | col t c => cases m
mutual
theorem cn_tx {Ts : List Tab} {pl : List Str} : ∀ {t : Tr}, t.Cn Ts pl → ∀ z ∈ t.tx, z ∈ pl
  | .tru, _, _, m => nomatch m
  | .fls, _, _, m => nomatch m
  | .ex _, _, _, m => nomatch m
  | .cmp _ l r, h, z, m => by
    obtain ⟨tx, ws, h1, h2⟩ := h
    rcases List.mem_append.mp m with m | m
    · exact opd_in_tx h1 z m
    · exact opd_in_tx h2 z m
  | .neg a, h, z, m => cn_tx (t := a) h z m
  | .jn _ ps, h, z, m => cns_tx (ts := ps) h.2 z m
theorem cns_tx {Ts : List Tab} {pl : List Str} : ∀ {ts : List Tr}, trsCn Ts pl ts → ∀ z ∈ trsTx ts, z ∈ pl
  | [], _, _, m => nomatch m
  | t :: ts, h, z, m => by
    rcases List.mem_append.mp m with m | m
    · exact cn_tx (t := t) h.1 z m
    · exact cns_tx (ts := ts) h.2 z m
end
mutual
theorem ex_tx {Ts : List Tab} {pl ws : List Str} {tx : Bool} : ∀ {t : Tr}, t.Ex Ts pl ws tx → ∀ z ∈ t.tx, z ∈ pl
  | .op o, h, z, m => opd_in_tx (o := o) h z m
  | .ite ps e, h, z, m => by
    rcases List.mem_append.mp m with m | m
    · exact exs_tx (ts := ps) h.2.1 z m
    · exact ex_tx (t := e) h.2.2.1 z m
theorem exs_tx {Ts : List Tab} {pl ws : List Str} {tx : Bool} : ∀ {ts : List (Tr × Tr)}, brsEx Ts pl ws tx ts → ∀ z ∈ brsTx ts, z ∈ pl
  | [], _, _, m => nomatch m
  | (a, b) :: ts, h, z, m => by
    rcases List.mem_append.mp m with m | m
    · rcases List.mem_append.mp m with m | m
      · exact cn_tx (t := a) h.1 z m
      · exact ex_tx (t := b) h.2.1 z m
    · exact exs_tx (ts := ts) h.2.2 z m
end
end Mx
namespace Tq
open Mx PySem
theorem trsNd_int : ∀ ts : List Tr, (ts.map fun t => (t.nd : Int)).sum = (trsNd ts : Int)
  | [] => rfl
  | t :: ts => by rw [List.map_cons, List.sum_cons, trsNd_int ts, trsNd]; omega
theorem nd_pos (t : Tr) : 1 ≤ t.nd := by rw [nd_parts]; omega
theorem len_nd : ∀ ts : List Tr, ts.length ≤ trsNd ts
  | [] => Nat.le_refl _
  | t :: ts => by have := nd_pos t; have := len_nd ts; rw [trsNd, List.length_cons]; omega
theorem ints_map (g : Tr → Nat) (ts : List Tr) : (ts.map fun t => PyData.int (g t)) = (ts.map fun t => (g t : Int)).map PyData.int := by rw [List.map_map]; rfl
end Tq
namespace Tq
open Mx PySem
theorem lp_or : ∀ t : Tr, (∃ e l r, t = .cmp e l r) ∨ (t.lp = t.parts ∧ ∀ e l r, t ≠ .cmp e l r)
  | .cmp e l r => .inl ⟨e, l, r, rfl⟩
  | .tru => .inr ⟨rfl, fun _ _ _ h => nomatch h⟩
  | .fls => .inr ⟨rfl, fun _ _ _ h => nomatch h⟩
  | .ex _ => .inr ⟨rfl, fun _ _ _ h => nomatch h⟩
  | .op _ => .inr ⟨rfl, fun _ _ _ h => nomatch h⟩
  | .neg _ => .inr ⟨rfl, fun _ _ _ h => nomatch h⟩
  | .jn _ _ => .inr ⟨rfl, fun _ _ _ h => nomatch h⟩
  | .ite _ _ => .inr ⟨rfl, fun _ _ _ h => nomatch h⟩
end Tq
namespace Mx
open PySem PySem.Spec PyProof.Rows L2 Tq
theorem isC_len {xs : List PyData} (h : xs.length ≠ 2) : isC xs = none := by
  unfold isC
  split
  · exact (h rfl).elim
  · rfl
theorem isC_two (a b : PyData) {n : Nat} (h : Dn n a) : isC [a, b] = if PyData.eqv a (.str "cell") = true then some b else none := by
  obtain ⟨m, rfl⟩ : ∃ m, n = m + 1 := by
    cases n with
    | zero => exact h.elim
    | succ m => exact ⟨m, rfl⟩
  cases a with
  | str z =>
    show (if z = "cell" then some b else none) = if decide (z = "cell") = true then some b else none
    by_cases c : z = "cell"
    · rw [if_pos c, if_pos (decide_eq_true c)]
    · rw [if_neg c, if_neg (by rw [decide_eq_false c]; decide)]
  | none => rfl
  | tuple xs => rfl
  | _ => exact h.elim
theorem nd_len {zs : List Str} : ∀ {L : List Str}, zs.Nodup → (∀ z ∈ zs, z ∈ L) → zs.length ≤ L.length := fun {L} n h => by
  have e : zs.Perm ((once L).filter fun z => decide (z ∈ zs)) := (List.perm_ext_iff_of_nodup n ((once_nd L).filter _)).mpr fun z => by
    rw [List.mem_filter, decide_eq_true_iff, once_mem]
    exact ⟨fun m => ⟨h z m, m⟩, fun m => m.2⟩
  rw [e.length_eq]
  exact Nat.le_trans (List.length_filter_le _ _) (once_len L)
theorem flat_len {α : Type} (g : α → List Str) {xs : List α} {x : α} (m : x ∈ xs) : (g x).length ≤ (xs.map g).flatten.length := by
  induction xs with
  | nil => cases m
  | cons y r ih =>
    rw [List.map_cons, List.flatten_cons, List.length_append]
    rcases List.mem_cons.mp m with rfl | m
    · omega
    · have := ih m; omega
theorem flat_take {α : Type} (g : α → List Str) {xs : List α} {x : α} {k : Nat} (h : xs[k]? = some x) : ((xs.take (k + 1)).map g).flatten = ((xs.take k).map g).flatten ++ g x := by
  rw [List.take_add_one, h, List.map_append, List.flatten_append]
  simp
theorem flat_tlen {α : Type} (g : α → List Str) (xs : List α) (k : Nat) : ((xs.take k).map g).flatten.length ≤ (xs.map g).flatten.length := by
  conv => rhs; rw [← List.take_append_drop k xs]
  rw [List.map_append, List.flatten_append, List.length_append]
  omega
end Mx
namespace Tq
open Mx PySem
theorem optx_len (o : Opd) : o.tx.length ≤ 1 := own_len (.op o)
mutual
theorem tx_len : ∀ t : Tr, t.tx.length ≤ t.nd
  | .tru => by decide
  | .fls => by decide
  | .ex _ => by show 0 ≤ 1; omega
  | .op o => optx_len o
  | .cmp _ l r => by
    have a := optx_len l
    have b := optx_len r
    show (l.tx ++ r.tx).length ≤ 3
    rw [List.length_append]; omega
  | .neg a => by
    have := tx_len a
    show a.tx.length ≤ a.nd + 1
    omega
  | .jn _ ps => by
    have := txs_len ps
    show (trsTx ps).length ≤ trsNd ps + 1
    omega
  | .ite ps e => by
    have a := txb_len ps
    have b := tx_len e
    show (brsTx ps ++ e.tx).length ≤ brsNd ps + e.nd + 1
    rw [List.length_append]; omega
theorem txs_len : ∀ ts : List Tr, (trsTx ts).length ≤ trsNd ts
  | [] => Nat.le_refl _
  | t :: ts => by
    have a := tx_len t
    have b := txs_len ts
    show (t.tx ++ trsTx ts).length ≤ t.nd + trsNd ts
    rw [List.length_append]; omega
theorem txb_len : ∀ ts : List (Tr × Tr), (brsTx ts).length ≤ brsNd ts
  | [] => Nat.le_refl _
  | (x, y) :: ts => by
    have a := tx_len x
    have b := tx_len y
    have c := txb_len ts
    show (x.tx ++ y.tx ++ brsTx ts).length ≤ x.nd + y.nd + brsNd ts
    rw [List.length_append, List.length_append]; omega
end
end Tq
/-! conditions and expressions for a record -/
namespace Tq
open Mx PySem
def lookC : List Col → List Cel → Str → Cel
  | C :: Cs, x :: xs, c => if C.name = c then x else lookC Cs xs c
  | _, _, _ => .null
def lookT : List Tab → List CRow → Str → Str → Cel
  | T :: Ts, r :: R, t, c => if T.name = t then (match r with
    | none => .null
    | some cs => lookC T.cols cs c) else lookT Ts R t c
  | _, _, _, _ => .null
def hasRow : List Tab → List CRow → Str → Bool
  | T :: Ts, r :: R, t => if T.name = t then r.isSome else hasRow Ts R t
  | _, _, _ => false
def Opd.ev (Ts : List Tab) (R : List CRow) : Opd → Cel
  | .cell c => c
  | .col t c => lookT Ts R t c
def celEq : Cel → Cel → Bool
  | .null, .null => true
  | .txt a, .txt b => decide (a = b)
  | .val a, .val b => decide (a = b)
  | _, _ => false
mutual
def Tr.ev (Ts : List Tab) (R : List CRow) : Tr → Bool
  | .tru => true
  | .fls => false
  | .ex t => hasRow Ts R t
  | .cmp e l r => celEq (l.ev Ts R) (r.ev Ts R) == e
  | .neg a => !a.ev Ts R
  | .jn c ps => if c then trsAll Ts R ps else trsAny Ts R ps
  | .op _ => false
  | .ite _ _ => false
def trsAll (Ts : List Tab) (R : List CRow) : List Tr → Bool
  | [] => true
  | t :: ts => t.ev Ts R && trsAll Ts R ts
def trsAny (Ts : List Tab) (R : List CRow) : List Tr → Bool
  | [] => false
  | t :: ts => t.ev Ts R || trsAny Ts R ts
end
theorem lookT_no {t c : Str} : ∀ {Ts : List Tab} (R : List CRow), t ∉ Ts.map Tab.name → lookT Ts R t c = .null
  | [], _, _ => rfl
  | T :: Ts, [], _ => rfl
  | T :: Ts, r :: R, h => by
    rw [List.map_cons, List.mem_cons, not_or] at h
    show (if T.name = t then (match r with
      | none => Cel.null
      | some cs => lookC T.cols cs c) else lookT Ts R t c) = _
    rw [if_neg (fun e => h.1 e.symm)]
    exact lookT_no R h.2
theorem hasRow_no {t : Str} : ∀ {Ts : List Tab} (R : List CRow), t ∉ Ts.map Tab.name → hasRow Ts R t = false
  | [], _, _ => rfl
  | T :: Ts, [], _ => rfl
  | T :: Ts, r :: R, h => by
    rw [List.map_cons, List.mem_cons, not_or] at h
    show (if T.name = t then r.isSome else hasRow Ts R t) = _
    rw [if_neg (fun e => h.1 e.symm)]
    exact hasRow_no R h.2
theorem celEq_eqv (a b : Cel) : PyData.eqv a.d b.d = celEq a b := by
  cases a <;> cases b <;> first | rfl | skip
  rename_i x y
  show (decide (x = y) && true) = decide (x = y)
  rw [Bool.and_true]
theorem cel_depth (a : Cel) : a.d.depth ≤ 1 := by
  cases a with
  | null => exact Nat.zero_le _
  | txt z => exact Nat.zero_le _
  | val n => exact depth_tup (n := 0) fun d m => by rw [List.mem_singleton.mp m]; exact Nat.zero_le _
end Tq
namespace Mx
open PySem PySem.Spec PyProof.Rows L2 Tq
theorem at_map {α : Type} {f : α → PyData} {l : List α} {k : Nat} {x : α} (h : l[k]? = some x) : atI (l.map f) (k : Int) = some (f x) := by
  have l1 := (List.getElem?_eq_some_iff.mp h).1
  obtain ⟨y, e1, e2⟩ := atI_map (f := f) (xs := l) (i := (k : Int)) (by omega) (by omega)
  rw [Int.toNat_natCast, h] at e2
  cases e2; exact e1
/-- the record has the tables' places and cells -/
structure FormN (Ts : List Tab) (R : List CRow) : Prop where
  len : R.length = Ts.length
  few : Ts.length ≤ 1000
  cfew : ∀ T ∈ Ts, T.cols.length ≤ 1000
  row : ∀ (k : Nat) T cs, Ts[k]? = some T → R[k]? = some (some cs) → cs.length = T.cols.length
def fLCell : List DV → MQ → Prop := fun dvs Q => ∃ Ts o R, dvs = [.d (tabsD Ts), .d (Opd.d o), .d (recD R)] ∧ FormN Ts R ∧ (Ts.map Tab.name).Nodup ∧ Q (.d (o.ev Ts R).d)
def fLHolds : Nat → List DV → MQ → Prop
  | 0 => fun _ _ => False
  | d + 1 => fun dvs Q => ∃ Ts pl tr R, dvs = [.d (tabsD Ts), .d (Tr.d tr), .d (recD R)] ∧ FormN Ts R ∧ (Ts.map Tab.name).Nodup ∧ tr.Ok ∧ tr.Cn Ts pl ∧ tr.dep ≤ d ∧ Q (.d (.bool (tr.ev Ts R)))
theorem drop_cons {α : Type} {l : List α} {k : Nat} {x : α} (h : l[k]? = some x) : l.drop k = x :: l.drop (k + 1) := by
  obtain ⟨hk, e⟩ := List.getElem?_eq_some_iff.mp h
  rw [List.drop_eq_getElem_cons hk, e]
theorem get_len {α β : Type} {xs : List α} {ys : List β} {k : Nat} {x : α} (h : xs[k]? = some x) (e : ys.length = xs.length) : ∃ y, ys[k]? = some y := by
  have := (List.getElem?_eq_some_iff.mp h).1
  exact ⟨_, List.getElem?_eq_getElem (by omega)⟩
theorem rest_no {Ts : List Tab} {k : Nat} {T : Tab} (nn : (Ts.map Tab.name).Nodup) (h : Ts[k]? = some T) : T.name ∉ (Ts.drop (k + 1)).map Tab.name := by
  have n2 := nn.sublist ((List.drop_sublist k Ts).map Tab.name)
  rw [drop_cons h, List.map_cons] at n2
  exact (List.nodup_cons.mp n2).1
theorem lookT_cons {T : Tab} {Ts : List Tab} {r : CRow} {R : List CRow} {t c : Str} : lookT (T :: Ts) (r :: R) t c = if T.name = t then (match r with
    | none => .null
    | some cs => lookC T.cols cs c) else lookT Ts R t c := rfl
theorem hasRow_cons {T : Tab} {Ts : List Tab} {r : CRow} {R : List CRow} {t : Str} : hasRow (T :: Ts) (r :: R) t = if T.name = t then r.isSome else hasRow Ts R t := rfl
end Mx
/-! records of a schema's form, as drawn -/
namespace Mx
open PySem PySem.Spec PyProof.Rows L2 Tq
/-- a cell of the column's kind, its text from the pool -/
def CelK (pl : List Str) (C : Col) : Cel → Prop
  | .null => True
  | .txt z => C.isT = true ∧ z ∈ pl
  | .val n => C.isT = false ∧ IsName n
def RowK (pl : List Str) (T : Tab) (cs : List Cel) : Prop := cs.length = T.cols.length ∧ ∀ (j : Nat) C x, T.cols[j]? = some C → cs[j]? = some x → CelK pl C x
structure RecK (Ts : List Tab) (pl : List Str) (R : List CRow) : Prop where
  len : R.length = Ts.length
  row : ∀ (k : Nat) T cs, Ts[k]? = some T → R[k]? = some (some cs) → RowK pl T cs
theorem RecK.form {Ts : List Tab} {pl : List Str} {R : List CRow} (h : RecK Ts pl R) (tb : TbOk Ts) : FormN Ts R :=
  ⟨h.len, Nat.le_trans tb.len (by decide), fun T m => by have := colN_mem m; have := tb.few; omega, fun k T cs h1 h2 => (h.row k T cs h1 h2).1⟩
theorem unk_name : IsName "unknown_value" := ⟨⟨⟨_, _, rfl, by decide, by decide⟩, by decide +kernel⟩, by decide, by decide +kernel⟩
def fShape : List DV → MQ → Prop := fun dvs Q => ∃ Ts pl, dvs = [.tp, .d (tabsD Ts), .l false false (sL pl)] ∧ TbOk Ts ∧ (∀ z ∈ pl, IsText z) ∧ pl.length ≤ 10000 ∧ ∀ R, RecK Ts pl R → Q (.d (recD R))
/-- the cells a column can be given -/
theorem snoc_get {α : Type} {xs : List α} {x y : α} {k i : Nat} (l : xs.length = k) (h : (xs ++ [x])[i]? = some y) : (i < k ∧ xs[i]? = some y) ∨ (i = k ∧ y = x) := by
  by_cases c : i < k
  · rw [List.getElem?_append_left (by omega)] at h
    exact .inl ⟨c, h⟩
  · have hi := (List.getElem?_eq_some_iff.mp h).1
    rw [List.length_append] at hi
    have hi : i < xs.length + 1 := hi
    have : i = k := by omega
    subst this
    rw [List.getElem?_append_right (by omega), l, Nat.sub_self] at h
    have : x = y := by simpa using h
    exact .inr ⟨rfl, this.symm⟩
theorem eqv_kd (c : Col) : PyData.eqv c.kd (.str "text") = c.isT := eqv_text c
theorem cels_txt (pl : List Str) : (pl.map Cel.txt).map Cel.d = sL pl := by rw [List.map_map]; rfl
theorem cels_val (ws : List Str) : (ws.map Cel.val).map Cel.d = ws.map fun z => .tuple [.str z] := by rw [List.map_map]; rfl
end Mx
namespace Mx
open PySem PySem.Spec PyProof.Rows L2 Tq
/-- a row that fits: no null where none may be, values of the column -/
def CelF (pl : List Str) (C : Col) : Cel → Prop
  | .null => C.nul = true
  | .txt z => C.isT = true ∧ z ∈ pl
  | .val n => ∃ vs, C.kind = some vs ∧ n ∈ vs
def RowF (pl : List Str) (T : Tab) (cs : List Cel) : Prop := cs.length = T.cols.length ∧ ∀ (j : Nat) C x, T.cols[j]? = some C → cs[j]? = some x → CelF pl C x
structure RecF (Ts : List Tab) (pl : List Str) (R : List CRow) : Prop where
  len : R.length = Ts.length
  has : ∃ r ∈ R, r.isSome = true
  opt : ∀ (k : Nat) T, Ts[k]? = some T → R[k]? = some none → T.opt = true
  row : ∀ (k : Nat) T cs, Ts[k]? = some T → R[k]? = some (some cs) → RowF pl T cs
def fRow : List DV → MQ → Prop := fun dvs Q => ∃ T pl, dvs = [.tp, .d (Tab.d T), .l false false (sL pl)] ∧ T.Ok ∧ (∀ z ∈ pl, IsText z) ∧ pl ≠ [] ∧ pl.length ≤ 10000 ∧ T.cols.length ≤ 1000 ∧ ∀ cs, RowF pl T cs → Q (.d (rowD (some cs)))
def fRecord : List DV → MQ → Prop := fun dvs Q => ∃ Ts pl, dvs = [.tp, .d (tabsD Ts), .l false false (sL pl)] ∧ TbOk Ts ∧ (∀ z ∈ pl, IsText z) ∧ pl ≠ [] ∧ pl.length ≤ 10000 ∧ ∀ R, RecF Ts pl R → Q (.d (recD R))
/-- does the record, of the tables' form, fit? -/
def fitC (C : Col) : Cel → Bool
  | .null => C.nul
  | .txt _ => C.isT
  | .val n => match C.kind with
    | none => false
    | some vs => decide (n ∈ vs)
def fitCs : List Col → List Cel → Bool
  | C :: Cs, x :: xs => fitC C x && fitCs Cs xs
  | _, _ => true
def fitR (T : Tab) : CRow → Bool
  | none => T.opt
  | some cs => fitCs T.cols cs
def fitAll : List Tab → List CRow → Bool
  | T :: Ts, r :: R => fitR T r && fitAll Ts R
  | _, _ => true
def fitB (Ts : List Tab) (R : List CRow) : Bool := fitAll Ts R && R.any Option.isSome
def fFits : List DV → MQ → Prop := fun dvs Q => ∃ Ts pl R, dvs = [.d (tabsD Ts), .d (recD R)] ∧ TbOk Ts ∧ RecK Ts pl R ∧ Q (.d (.bool (fitB Ts R)))
end Mx
namespace Mx
open PySem PySem.Spec PyProof.Rows L2 Tq
def scmD (Ts : List Tab) (chs : List Tr) : PyData := .tuple [tabsD Ts, .tuple (chs.map Tr.d)]
/-- checks over the tables -/
structure ChOk (Ts : List Tab) (pl : List Str) (chs : List Tr) : Prop where
  few : chs.length ≤ 100
  each : ∀ c ∈ chs, c.Ok ∧ c.Cn Ts pl ∧ c.dep ≤ 20
def validB (Ts : List Tab) (chs : List Tr) (R : List CRow) : Bool := fitB Ts R && chs.all fun c => c.ev Ts R
def fValid : List DV → MQ → Prop := fun dvs Q => ∃ Ts chs pl pc R, dvs = [.d (scmD Ts chs), .d (recD R)] ∧ TbOk Ts ∧ ChOk Ts pc chs ∧ RecK Ts pl R ∧ Q (.d (.bool (validB Ts chs R)))
def fAnySchema : List DV → MQ → Prop := fun dvs Q => ∃ pl, ∃ wd : Int, dvs = [.tp, .l false false (sL pl), .d (.int wd)] ∧ (∀ z ∈ pl, IsText z) ∧ pl.length ≤ 10000 ∧ 1 ≤ wd ∧ wd ≤ 300 ∧ ∀ Ts chs, TbOk Ts → ChOk Ts pl chs → Q (.d (scmD Ts chs))
end Mx
namespace Mx
open PySem PySem.Spec PyProof.Rows L2 Tq
theorem name_v {k : Nat} (h : k < 100000) : IsName (nm "v" k) := by
  have w : IsW "v" := ⟨⟨_, _, rfl, by decide, by decide⟩, by decide +kernel⟩
  have e0 : nm "v" k = ("v" ++ numS k : Str) := rfl
  rw [e0]
  refine ⟨w.app fun c hc => by have := numS_ok k c hc; unfold isM; omega, ?_, nm_free "v" k⟩
  have a := numS_len (k := k) h
  have e : ("v" ++ numS k : Str).length = ("v" : Str).length + (numS k).length := app_len _ _
  rw [e]
  have : ("v" : Str).length = 1 := rfl
  omega
def fSamp : List DV → MQ → Prop := fun dvs Q => ∃ (xs : List Str) (n : Int), dvs = [.d (.tuple (sL xs)), .d (.int n)] ∧ 0 ≤ n ∧ n ≤ 1000 ∧ xs.length ≤ 1000 ∧ Q (.l true true (sL (firstN "v" n.toNat xs)))
/-- what a column can be given when u samples are used, and how many then are -/
def optC (cs : List Str) (C : Col) (u : Nat) : List Cel :=
  (if C.nul then [.null] else []) ++ (match C.kind with
    | none => cs.map Cel.txt ++ (firstN "v" (u + 1) cs).map Cel.txt
    | some vs => vs.map Cel.val)
def optN (C : Col) (n u i : Nat) : Nat := u + if C.isT && decide (i + 1 = n) then 1 else 0
def stepG (cs : List Str) (C : Col) (p : List Cel × Nat) (i : Nat) : List Cel × Nat := (p.1 ++ [(optC cs C p.2).getD i .null], optN C (optC cs C p.2).length p.2 i)
def stepR (cs : List Str) (C : Col) (p : List Cel × Nat) : List (List Cel × Nat) := (List.range (optC cs C p.2).length).map (stepG cs C p)
def nextRows (cs : List Str) (Cs : List Col) (u : Nat) : List (List Cel × Nat) := Cs.foldl (fun rows C => rows.flatMap (stepR cs C)) [([], u)]
def crD (p : List Cel × Nat) : PyData := .tuple [.tuple (p.1.map Cel.d), .int p.2]
theorem nextRows_snoc (cs : List Str) (Cs : List Col) (C : Col) (u : Nat) : nextRows cs (Cs ++ [C]) u = (nextRows cs Cs u).flatMap (stepR cs C) := by
  unfold nextRows
  rw [List.foldl_append]; rfl
theorem nextRows_take {cs : List Str} {Cs : List Col} {C : Col} {k : Nat} (u : Nat) (h : Cs[k]? = some C) : nextRows cs (Cs.take (k + 1)) u = (nextRows cs (Cs.take k) u).flatMap (stepR cs C) := by
  rw [List.take_add_one, h]
  exact nextRows_snoc cs _ C u
theorem optN_le (C : Col) (n u i : Nat) : optN C n u i ≤ u + 1 := by
  unfold optN
  split <;> omega
theorem stepR_mem {cs : List Str} {C : Col} {p q : List Cel × Nat} (h : q ∈ stepR cs C p) : q.2 ≤ p.2 + 1 ∧ q.1.length = p.1.length + 1 := by
  obtain ⟨i, _, rfl⟩ := List.mem_map.mp h
  exact ⟨optN_le _ _ _ _, by show (p.1 ++ [_]).length = _; rw [List.length_append]; rfl⟩
theorem nextRows_mem (cs : List Str) (Cs : List Col) (u : Nat) : ∀ q ∈ nextRows cs Cs u, q.2 ≤ u + Cs.length ∧ q.1.length = Cs.length := by
  refine snoc_ind (P := fun Cs => ∀ q ∈ nextRows cs Cs u, q.2 ≤ u + Cs.length ∧ q.1.length = Cs.length) ?_ (fun r C h q m => ?_) Cs
  · intro q m
    rw [List.mem_singleton.mp m]; exact ⟨Nat.le_refl _, rfl⟩
  · rw [nextRows_snoc] at m
    obtain ⟨p, mp, mq⟩ := List.mem_flatMap.mp m
    have a := h p mp
    have b := stepR_mem mq
    rw [List.length_append]
    show _ ≤ u + (r.length + 1) ∧ _ = r.length + 1
    omega
def fNextRows : List DV → MQ → Prop := fun dvs Q => ∃ (Cs : List Col) (cs : List Str) (u : Nat), dvs = [.d (.tuple (Cs.map Col.d)), .d (.tuple (sL cs)), .d (.int u)] ∧ (∀ C ∈ Cs, C.Ok) ∧ Cs.length ≤ 100 ∧ (∀ z ∈ cs, IsText z) ∧ cs.length ≤ 900 ∧ u ≤ 500 ∧ (∀ k, (nextRows cs (Cs.take k) u).length ≤ 100000) ∧ Q (.l true true ((nextRows cs Cs u).map crD))
theorem optC_len {cs : List Str} {C : Col} (u : Nat) (h : C.Ok) (h2 : cs.length ≤ 900) (h3 : u ≤ 700) : (optC cs C u).length ≤ 2000 := by
  unfold optC
  rw [List.length_append]
  have a : (if C.nul then [Cel.null] else []).length ≤ 1 := by split <;> simp
  cases e : C.kind with
  | none =>
    show _ + (cs.map Cel.txt ++ (firstN "v" (u + 1) cs).map Cel.txt).length ≤ 2000
    rw [List.length_append, List.length_map, List.length_map, firstN_len]
    omega
  | some vs =>
    have := (h.vals vs e).2.1
    show _ + (vs.map Cel.val).length ≤ 2000
    rw [List.length_map]
    omega
end Mx
namespace Mx
open PySem PySem.Spec PyProof.Rows L2 Tq
def stepT (cs : List Str) (T : Tab) (p : List CRow × Nat) : List (List CRow × Nat) :=
  (if T.opt then [(p.1 ++ [none], p.2)] else []) ++ (nextRows cs T.cols p.2).map fun q => (p.1 ++ [some q.1], q.2)
def candL (cs : List Str) (Ts : List Tab) : List (List CRow × Nat) := Ts.foldl (fun f T => f.flatMap (stepT cs T)) [([], 0)]
def candD (p : List CRow × Nat) : PyData := .tuple [recD p.1, .int p.2]
theorem cands_snoc (cs : List Str) (Ts : List Tab) (T : Tab) : candL cs (Ts ++ [T]) = (candL cs Ts).flatMap (stepT cs T) := by
  unfold candL
  rw [List.foldl_append]; rfl
theorem cands_take {cs : List Str} {Ts : List Tab} {T : Tab} {k : Nat} (h : Ts[k]? = some T) : candL cs (Ts.take (k + 1)) = (candL cs (Ts.take k)).flatMap (stepT cs T) := by
  rw [List.take_add_one, h]
  exact cands_snoc cs _ T
theorem stepT_mem {cs : List Str} {T : Tab} {p q : List CRow × Nat} (h : q ∈ stepT cs T p) : q.2 ≤ p.2 + T.cols.length ∧ q.1.length = p.1.length + 1 := by
  rcases List.mem_append.mp h with h | h
  · split at h
    · rw [List.mem_singleton.mp h]
      exact ⟨Nat.le_add_right _ _, by show (p.1 ++ [_]).length = _; rw [List.length_append]; rfl⟩
    · cases h
  · obtain ⟨r, mr, rfl⟩ := List.mem_map.mp h
    exact ⟨(nextRows_mem cs T.cols p.2 r mr).1, by show (p.1 ++ [_]).length = _; rw [List.length_append]; rfl⟩
theorem cands_mem (cs : List Str) (Ts : List Tab) : ∀ q ∈ candL cs Ts, q.2 ≤ colN Ts ∧ q.1.length = Ts.length := by
  refine snoc_ind (P := fun Ts => ∀ q ∈ candL cs Ts, q.2 ≤ colN Ts ∧ q.1.length = Ts.length) ?_ (fun r T h q m => ?_) Ts
  · intro q m
    rw [List.mem_singleton.mp m]; exact ⟨Nat.zero_le _, rfl⟩
  · rw [cands_snoc] at m
    obtain ⟨p, mp, mq⟩ := List.mem_flatMap.mp m
    have a := h p mp
    have b := stepT_mem mq
    rw [List.length_append, colN_snoc]
    show _ ∧ _ = r.length + 1
    omega
theorem colN_tk (Ts : List Tab) (k : Nat) : colN (Ts.take k) ≤ colN Ts := by
  have : colN (Ts.take k ++ Ts.drop k) = colN (Ts.take k) + colN (Ts.drop k) := by unfold colN; rw [List.flatMap_append, List.length_append]
  rw [List.take_append_drop] at this
  omega
/-- the listing stays short -/
structure Short (Ts : List Tab) (cs : List Str) : Prop where
  all : ∀ k, (candL cs (Ts.take k)).length ≤ 100000
  row : ∀ (k : Nat) T p, Ts[k]? = some T → p ∈ candL cs (Ts.take k) → ∀ j, (nextRows cs (T.cols.take j) p.2).length ≤ 100000
def fCands : List DV → MQ → Prop := fun dvs Q => ∃ (Ts : List Tab) (cs : List Str), dvs = [.d (tabsD Ts), .d (.tuple (sL cs))] ∧ TbOk Ts ∧ (∀ z ∈ cs, IsText z) ∧ cs.length ≤ 900 ∧ Short Ts cs ∧ Q (.l true true ((candL cs Ts).map fun p => recD p.1))
end Mx
namespace Mx
open PySem PySem.Spec PyProof.Rows L2 Tq
def KindOk (C : Col) : Cel → Prop
  | .null => True
  | .txt _ => C.isT = true
  | .val n => C.isT = false ∧ IsName n
theorem optC_kind {cs : List Str} {C : Col} {u : Nat} (h : C.Ok) : ∀ x ∈ optC cs C u, KindOk C x := fun x m => by
  rcases List.mem_append.mp m with m | m
  · split at m
    · rw [List.mem_singleton.mp m]; trivial
    · cases m
  · cases ek : C.kind with
    | none =>
      rw [ek] at m
      have e : C.isT = true := by unfold Col.isT; rw [ek]; rfl
      rcases List.mem_append.mp m with m | m
      · obtain ⟨z, _, rfl⟩ := List.mem_map.mp m; exact e
      · obtain ⟨z, _, rfl⟩ := List.mem_map.mp m; exact e
    | some vs =>
      rw [ek] at m
      have e : C.isT = false := by unfold Col.isT; rw [ek]; rfl
      obtain ⟨z, mz, rfl⟩ := List.mem_map.mp m
      exact ⟨e, (h.vals vs ek).2.2 z mz⟩
theorem snoc_at {α : Type} {xs : List α} {x : α} {k : Nat} (l : xs.length = k) : (xs ++ [x])[k]? = some x := by
  rw [List.getElem?_append_right (by omega), l, Nat.sub_self]; rfl
theorem nextRows_kind (cs : List Str) (Cs : List Col) (u : Nat) : (∀ C ∈ Cs, C.Ok) → ∀ q ∈ nextRows cs Cs u, ∀ (j : Nat) C x, Cs[j]? = some C → q.1[j]? = some x → KindOk C x := by
  refine snoc_ind (P := fun Cs => (∀ C ∈ Cs, C.Ok) → ∀ q ∈ nextRows cs Cs u, ∀ (j : Nat) C x, Cs[j]? = some C → q.1[j]? = some x → KindOk C x) ?_ (fun r C h hok q m j C' x h1 h2 => ?_) Cs
  · intro _ q _ j C x h1 _
    simp at h1
  · rw [nextRows_snoc] at m
    obtain ⟨p, mp, mq⟩ := List.mem_flatMap.mp m
    obtain ⟨i, mi, rfl⟩ := List.mem_map.mp mq
    have li := List.mem_range.mp mi
    have pl := (nextRows_mem cs r u p mp).2
    have h2 : (p.1 ++ [(optC cs C p.2).getD i .null])[j]? = some x := h2
    rcases snoc_get pl h2 with ⟨lt, h3⟩ | ⟨rfl, rfl⟩
    · rw [List.getElem?_append_left lt] at h1
      exact h (fun C m => hok C (List.mem_append_left _ m)) p mp j C' x h1 h3
    · rw [snoc_at rfl] at h1
      cases h1
      refine optC_kind (cs := cs) (u := p.2) (hok C (by simp)) _ ?_
      rw [List.getD_eq_getElem?_getD, List.getElem?_eq_getElem li]
      exact List.getElem_mem li
theorem candL_kind (cs : List Str) (Ts : List Tab) : (∀ T ∈ Ts, T.Ok) → ∀ q ∈ candL cs Ts, ∀ (k : Nat) T row, Ts[k]? = some T → q.1[k]? = some (some row) → row.length = T.cols.length ∧ ∀ (j : Nat) C x, T.cols[j]? = some C → row[j]? = some x → KindOk C x := by
  refine snoc_ind (P := fun Ts => (∀ T ∈ Ts, T.Ok) → ∀ q ∈ candL cs Ts, ∀ (k : Nat) T row, Ts[k]? = some T → q.1[k]? = some (some row) → row.length = T.cols.length ∧ ∀ (j : Nat) C x, T.cols[j]? = some C → row[j]? = some x → KindOk C x) ?_ (fun r T h hok q m k T' row h1 h2 => ?_) Ts
  · intro _ q _ k T row h1 _
    simp at h1
  · rw [cands_snoc] at m
    obtain ⟨p, mp, mq⟩ := List.mem_flatMap.mp m
    have pl := (cands_mem cs r p mp).2
    have old : ∀ y : CRow, q.1 = p.1 ++ [y] → (∀ w, y = some w → w.length = T.cols.length ∧ ∀ (j : Nat) C x, T.cols[j]? = some C → w[j]? = some x → KindOk C x) → row.length = T'.cols.length ∧ ∀ (j : Nat) C x, T'.cols[j]? = some C → row[j]? = some x → KindOk C x := fun y e hy => by
      rw [e] at h2
      rcases snoc_get pl h2 with ⟨lt, h3⟩ | ⟨rfl, h3⟩
      · rw [List.getElem?_append_left lt] at h1
        exact h (fun T m => hok T (List.mem_append_left _ m)) p mp k T' row h1 h3
      · rw [snoc_at rfl] at h1
        cases h1
        exact hy row h3.symm
    rcases List.mem_append.mp mq with mq | mq
    · split at mq
      · rw [List.mem_singleton.mp mq] at old
        exact old none rfl fun w e => nomatch e
      · cases mq
    · obtain ⟨v, mv, rfl⟩ := List.mem_map.mp mq
      refine old (some v.1) rfl fun w e => ?_
      cases e
      exact ⟨(nextRows_mem cs T.cols p.2 v mv).2, nextRows_kind cs T.cols p.2 (hok T (by simp)).cols v mv⟩
theorem recT_mem {R : List CRow} {row : List Cel} {z : Str} (h : some row ∈ R) (m : Cel.txt z ∈ row) : z ∈ recT R :=
  List.mem_flatMap.mpr ⟨some row, h, List.mem_filterMap.mpr ⟨.txt z, m, rfl⟩⟩
theorem candL_rec {cs : List Str} {Ts : List Tab} (h : ∀ T ∈ Ts, T.Ok) {q : List CRow × Nat} (m : q ∈ candL cs Ts) : RecK Ts (recT q.1) q.1 where
  len := (cands_mem cs Ts q m).2
  row k T row h1 h2 := by
    obtain ⟨a, b⟩ := candL_kind cs Ts h q m k T row h1 h2
    refine ⟨a, fun j C x h3 h4 => ?_⟩
    have := b j C x h3 h4
    cases x with
    | null => trivial
    | txt z => exact ⟨this, recT_mem (List.mem_of_getElem? h2) (List.mem_of_getElem? h4)⟩
    | val n => exact this
def fListed : List DV → MQ → Prop := fun dvs Q => ∃ (Ts : List Tab) (chs : List Tr) (pc cs : List Str), dvs = [.d (scmD Ts chs), .d (.tuple (sL cs))] ∧ TbOk Ts ∧ ChOk Ts pc chs ∧ (∀ z ∈ cs, IsText z) ∧ cs.length ≤ 900 ∧ Short Ts cs ∧ Q (.l true true (((candL cs Ts).filter fun q => validB Ts chs q.1).map fun q => recD q.1))
end Mx
/-! defs of the laws from k55 on -/
namespace Mx
open PySem PySem.Spec PyProof.Rows L2 Tq
def fFresh : List DV → MQ → Prop := fun dvs Q => ∃ (z : Str) (xs : List Str) (n : Int), dvs = [.d (.str z), .d (.tuple (sL xs)), .d (.int n)] ∧ z.length ≤ 12 ∧ (∀ k, k < 100000 → PyData.strOk (nm z k) = true) ∧ 0 ≤ n ∧ n ≤ 1000 ∧ xs.length ≤ 1000 ∧ Q (.l true true (sL (firstN z n.toNat xs)))
end Mx
namespace Mx
open PySem PySem.Spec PyProof.Rows L2 Tq
variable [Tb]
/-! ### a def that makes generators -/
/-- its code object, that one's table -/
def Gd (K : PySem.W.Frag) (fd : FuncData) : Prop := ∃ c P, fd.code = .ref c ∧ PySem.W.codeHdIn K c P = true ∧ P ∈ Tb.ls
class Bs (base : Heap) (mg : Str → Option Value) : Prop where
  b : ∀ P ∈ Tb.ls, base.BuiltinsAt mg P ∧ mainGlobals ≠ P
section
variable {P : Program} {w : World} {K : PySem.W.Frag} {mg : Str → Option Value} {base : Heap}
/-- a def by its body, the code object told -/
theorem fun_okC {x qual : Str} {st : Stmt} {f : Addr} {fd : FuncData} {N ps : List Str} {k : Nat} {sp : Sp} (F : Fun K x qual st f fd) (S : FnScope N ps (defScope st)) (len : ∀ vs H Q E, sp vs H Q E → vs.length = ps.length)
    (hb : ∀ (A : Around) (outer : List PySem.Env) (s : Shared) (H : Hp) (vs : List V) (Q : VK) (E : XK), Room k (A.deeper (envOfC qual (defScope st) s.heap.objs.size f fd.code)) → sp vs H Q E →
      ∃ t, PSs (cxOf CX0 P w K mg base N qual (defScope st) f fd.code A outer s H E).nox (defBody st) t ∧ t { nx := fun _ H' => Q .non H', rt := Q } (start N vs) H) : FnOk P w K mg base CX0 (k + 1) f fd ps sp := by
  obtain ⟨oc, od, kV, doc, pm, an, cdv, ct, osl, rfl, lk, hcd⟩ := F.ex
  refine fn_of lk hcd S len fun A outer s H vs Q E hr hsp => ?_
  obtain ⟨t, h, q⟩ := hb A outer s H vs Q E hr hsp
  exact ⟨t, h.nox, q⟩
end
/-! ### a dict that is not written any more -/
theorem inv_frz {X : Cx} {pins : List (Addr × Obj)} {σ : L2.St} {H : Hp} {s : Shared} {a : Addr} {ws : List (Key × V)} (I : Inv X pins σ H s) (e : H a = some (.dK ws)) : ∃ o, Inv X pins σ (upd H a (.frz o (.dK ws))) s := by
  have x := I.hok a _ e
  obtain ⟨z, y, vs, r, o, es, ep, ho, c⟩ := id x
  have ne : ∀ b u, H b = some u → (∀ kvs, u ≠ .dK kvs) → b ≠ a := fun b u q n z => by rw [z, e] at q; exact n _ (Option.some.inj q).symm
  have nn : ∀ b, H b = none → b ≠ a := fun b q z => by rw [z, e] at q; cases q
  have un : Un X.fs [] H (upd H a (.frz o (.dK ws))) s.heap s.heap := ⟨fun b u q _ _ _ => q, fun b u q _ _ _ => ⟨u.slots, q⟩, fun b u q n _ => by rw [upd_ne (nn b n)]; exact n, fun b u q _ => ⟨u, q⟩,
    fun b xs q => by rw [upd_ne (ne b _ q fun _ => by intro z; cases z)]; exact q, fun b u v q => by rw [upd_ne (ne b _ q fun _ => by intro z; cases z)]; exact q, fun b ps q => ⟨#[], by rw [upd_ne (ne b _ q fun _ => by intro z; cases z), q]; simp⟩⟩
  refine ⟨o, I.un (h' := s.heap) (t' := s.toks) un fun b u q => ?_⟩
  have own : ∀ c d, H c = some (.own d) → upd H a (.frz o (.dK ws)) c = some (.own d) := fun c d q => by rw [upd_ne (ne c _ q fun _ => by intro z; cases z)]; exact q
  have tup : ∀ c xs, H c = some (.tup xs) → upd H a (.frz o (.dK ws)) c = some (.tup xs) := fun c xs q => by rw [upd_ne (ne c _ q fun _ => by intro z; cases z)]; exact q
  by_cases hb : b = a
  · subst hb
    rw [upd_same] at q; cases q
    exact ⟨ho, x.stay (fun _ _ _ q => q) (own · _) tup⟩
  · rw [upd_ne hb] at q
    exact (I.hok b u q).stay (fun _ _ _ q => q) (own · _) tup
/-- return of a dict that is known from here on -/
def tRetF (te : TE) : TS := fun E σ H => te σ H fun v H1 => ∃ a ws, v = .ref a ∧ H1 a = some (.dK ws) ∧ ∀ o, E.rt v (upd H1 a (.frz o (.dK ws)))
theorem ps_retF {X : Cx} {e : Expr} {pos : Pos} {te : TE} (he : PE X e te) : PS X (.Return (some e) pos) (tRetF te) := by
  refine ⟨fun pins s σ H D I h => ?_⟩
  refine thn ((ps_ret he).run pins s σ H { D with rt := fun v H1 => ∃ a ws, v = .ref a ∧ H1 a = some (.dK ws) ∧ ∀ o, D.rt v (upd H1 a (.frz o (.dK ws))) } I h) fun f s1 hs => ?_
  cases f with
  | next => exact hs
  | brk => exact hs
  | cont => exact hs
  | ret u =>
    obtain ⟨v, σ1, H1, I1, r1, a, ws, rfl, e1, q⟩ := hs
    obtain ⟨o, I2⟩ := inv_frz I1 e1
    exact ⟨_, σ1, _, I2, r1, q o⟩
theorem k_tup {X : Cx} {K : PySem.W.Frag} {es : List Expr} {k : Nat} {pos : Pos} {t : TGs} {n : Nat} (h : X.K = K) (hc : X.calm = true) (hs : PGs X es t) (hn : (assignEach es X.env).length = n := by rfl) (hst : (assignEach es X.env).findIdx? (·.1) = none := by rfl) :
    PG X (.Tuple es k pos) (gTup K n t) := h ▸ pg_tup hc hs hn hst
theorem ps_retFK {X : Cx} {e : Expr} {pos : Pos} {te : TE} (he : PE X e te) : PS X (.Return (some e) pos) (tRetF te) := ps_retF he
theorem ps_retFR {X : Cx} {e : Expr} {pos : Pos} {te : TE} (he : PE X e te) : PS X (.Return (some e) pos) (tRetF te) := ps_retF he
section
variable {w : World} {K : PySem.W.Frag} {te tk tv : TE} {me mk mv : ME} {tt : TT} {mt : MT} {g : TG} {mg : MG}
def putB {β : Type} (kvs : List (Key × β)) (k : Key) (v : β) : List (Key × β) := if kvs.any (fun e => decide (e.1 = k)) then kvs.map (fun e => if e.1 = k then (e.1, v) else e) else kvs ++ [(k, v)]
theorem paired_map {α β γ δ : Type} {R : α → β → Prop} {S : γ → δ → Prop} {f : α → γ} {g : β → δ} (h : ∀ a b, R a b → S (f a) (g b)) : ∀ {as : List α} {bs : List β}, Paired R as bs → Paired S (as.map f) (bs.map g)
  | _, _, .nil => .nil
  | _, _, .cons a r => .cons (h _ _ a) (paired_map h r)
theorem kv_putB {β : Type} {R : V → β → Prop} {k : Key} {v : V} {y : β} (hv : R v y) {ws : List (Key × V)} {kvs : List (Key × β)} (h : Paired (fun p q => p.1 = q.1 ∧ R p.2 q.2) ws kvs) : Paired (fun p q => p.1 = q.1 ∧ R p.2 q.2) (putK ws k v) (putB kvs k y) := by
  have an : ws.any (fun e => decide (e.1 = k)) = kvs.any (fun e => decide (e.1 = k)) := by
    induction h with
    | nil => rfl
    | cons a _ ih => rw [List.any_cons, List.any_cons, ih, a.1]
  unfold putK putB
  rw [an]
  split
  · refine paired_map (fun a b q => ?_) h
    show (if a.1 = k then (a.1, v) else a).1 = (if b.1 = k then (b.1, y) else b).1 ∧ R (if a.1 = k then (a.1, v) else a).2 (if b.1 = k then (b.1, y) else b).2
    rw [q.1]
    split
    · exact ⟨rfl, hv⟩
    · exact q
  · exact paired_app h (.cons ⟨rfl, hv⟩ .nil)
structure DcGoal {β : Type} (sel : DV → Option β) (g : MG) (mt : MT) (mk mv : ME) (vs : List Nat) (ε : Env) (xs : List PyData) (R : List (Key × β) → Prop) : Prop where
  h : ∃ I : Nat → List (Key × β) → Prop, I 0 [] ∧ (∀ (i : Nat) (x : PyData) (acc : List (Key × β)), xs[i]? = some x → I i acc → g (.d x) (wipeE ε vs) fun ε' => mt ε' fun b => Cnd b (mk ε' fun dk => mv ε' fun dv => match dk, sel dv with
      | .d y, some z => ∃ k, keyD y = some k ∧ acc.length < sizeLine ∧ I (i + 1) (putB acc k z)
      | _, _ => False) (I (i + 1) acc)) ∧ ∀ acc, I xs.length acc → R acc
def mRetDc {β : Type} (sel : DV → Option β) (fin : List (Key × β) → DV) (mi : MI) (g : MG) (mt : MT) (mk mv : ME) (vs : List Nat) (D : MEnds) (ε : Env) : Prop := mi ε fun ε1 xs => DcGoal sel g mt mk mv vs ε1 xs fun acc => D.rt (fin acc)
theorem ds_retDcG {β : Type} {sel : DV → Option β} {fin : List (Key × β) → DV} {R : Hp → V → β → Prop} (hsel : ∀ T H v dv z, RV w K T H v dv → sel dv = some z → R H v z) (hkeep : ∀ H H' v z, R H v z → TK H H' → ZK H H' → R H' v z)
    (hfin : ∀ T H a o ws acc, H a = some (.frz o (.dK ws)) → Paired (fun p q => p.1 = q.1 ∧ R H p.2 q.2) ws acc → RV w K T H (.ref a) (fin acc)) (hn : ∀ acc, (fin acc).new = false) (ho : ∀ acc, (fin acc).own = false)
    {wi : TI} {mi : MI} {ss vs : List Nat} (hi : DI w K wi mi) (hg : DG w K g mg ss) (ht : DT w K tt mt) (hk : DE w K tk mk) (he : DE w K tv mv) (sub : ∀ i ∈ ss, i ∈ vs) : DS w K (tRetF (tDc wi g tt tk tv vs)) (mRetDc sel fin mi mg mt mk mv vs) := by
  intro T F σ H ε D E r h s
  refine hi T F σ H ε _ _ r h fun J H1 ε1 xs fzs k1 t1 r1 tk1 wk _ h1 => ?_
  obtain ⟨I, i0, hs, hd⟩ := h1.h
  intro D0 hD
  have keepP : ∀ {H H' : Hp} {ws : List (Key × V)} {acc : List (Key × β)}, TK H H' → ZK H H' → Paired (fun p q => p.1 = q.1 ∧ R H p.2 q.2) ws acc → Paired (fun p q => p.1 = q.1 ∧ R H' p.2 q.2) ws acc := fun k z p => L2.Paired.mapP p fun a b q => ⟨q.1, hkeep _ _ _ _ q.2 k z⟩
  have zput : ∀ {H : Hp} {kvs : List (Key × V)} {o : HO}, H D0 = some (.dK kvs) → ZK H (upd H D0 o) := fun e b ob u q => (upd_ne (ne_of q e (by intro z; cases z))).trans q
  refine ⟨fun i m H' => m = xs.length - i ∧ i ≤ xs.length ∧ ∃ acc us, H' D0 = some (.dK us) ∧ Paired (fun p q => p.1 = q.1 ∧ R H' p.2 q.2) us acc ∧ Keep T H1 H' ∧ TOk T H' ∧ I i acc, ⟨_, rfl, Nat.zero_le _, [], [], upd_same, .nil, Keep.new hD, t1.new hD, i0⟩, ?_⟩
  rintro i m H' ⟨rfl, le, acc, us, hu, da, k', t', hI⟩
  have r' := r1.go k' t'
  have nt := ne_tape t1 hD
  have wk' := wk i H' (k'.tk t1) (fun p hp => (r'.fz p (List.mem_append_left _ hp)).1) t'
  by_cases lt : i < xs.length
  · obtain ⟨go, yl⟩ := wk'.2 _ (List.getElem?_eq_getElem lt)
    refine .inr ⟨go, fun H2 => ∃ acc us, H2 D0 = some (.dK us) ∧ Paired (fun p q => p.1 = q.1 ∧ R H2 p.2 q.2) us acc ∧ Keep T H1 H2 ∧ TOk T H2 ∧ I (i + 1) acc, fun H2 n => ⟨xs.length - (i + 1), by omega, rfl, lt, n⟩, fun x H2 y => ?_⟩
    obtain ⟨k2, t2, rv⟩ := yl x H2 y
    refine hg T _ _ H2 (wipeE ε1 vs) _ _ _ _ ((r'.go k2 t2).wipe vs) rv (hs i _ acc (List.getElem?_eq_getElem lt) hI) fun σ3 ε3 r3 wp h3 => ?_
    refine ⟨(wp vs sub).trans (wipe_wipe σ vs), ht T _ σ3 H2 ε3 _ _ r3 h3 fun b H3 k3 t3 h4 => ?_⟩
    have k23 := k2.trans k3
    cases b with
    | true =>
      refine hk T _ σ3 H3 ε3 _ _ (r3.go k3 t3) h4.h fun dk kv H4 c4 h5 => he T _ σ3 H4 ε3 _ _ (c4.rel (r3.go k3 t3)) h5 fun dv v H5 c5 h6 => ?_
      split at h6
      · rename_i y z esel
        obtain ⟨key, ek, hz, hI'⟩ := h6
        have k25 := (k23.trans c4.k).trans c5.k
        have h5D := k25 D0 _ nt hu
        have ln : us.length = acc.length := Paired.length da
        refine ⟨us, key, keyD_v c4.rv.1 ek, h5D, by rw [ln]; exact hz, putB acc key z, putK us key v, upd_same, ?_, ?_, ?_, hI'⟩
        · refine kv_putB ?_ (keepP (TK.putD h5D) (zput h5D) (keepP (k25.tk t') (k25.zk t') da))
          exact hkeep _ _ _ _ (hsel T _ v dv z c5.rv esel) (TK.putD h5D) (zput h5D)
        · intro b u n e
          have nb : b ≠ D0 := by rintro rfl; rw [hD] at e; cases e
          rw [upd_ne nb]
          exact (k'.trans k25) b u n e
        · exact t1.put hD c5.t
      · exact h6.elim
    | false => exact ⟨acc, us, k23 D0 _ nt hu, keepP (k23.tk t') (k23.zk t') da, k'.trans k23, t3, h4.h⟩
  · have e : i = xs.length := by omega
    subst e
    refine .inl ⟨wk'.1 rfl, D0, us, rfl, hu, fun o => s.rt _ _ ⟨fin acc, ⟨?_, t1.put hD t', ?_, fun q => (by rw [hn] at q; cases q), fun q => (by rw [ho] at q; cases q)⟩, ?_, fun p hp => ?_, hd acc hI⟩⟩
    · intro b u n e
      have h0 : F.H0 D0 = none := r.keep.free r.t1 (k1.free t1 hD)
      have nb : b ≠ D0 := by rintro rfl; rw [h0] at e; cases e
      rw [upd_ne nb]
      exact (r.keep.trans (k1.trans k')) b u n e
    · exact hfin T _ D0 o us acc upd_same (keepP (TK.putD hu) (zput hu) da)
    · exact (tk1.trans (k'.tk t1)).trans (TK.putD hu)
    · have q := (r'.fz p (List.mem_append_right _ hp)).1
      have q1 := (r1.fz p (List.mem_append_right _ hp)).1
      rw [upd_ne (fun z => by rw [z, hD] at q1; cases q1)]
      exact q
def selD : DV → Option PyData
  | .d x => some x
  | _ => none
def selR : DV → Option (Option (List (Key × PyData)))
  | .d .none => some none
  | .fk kvs => some (some kvs)
  | _ => none
/-- return {..} of plain data; of rows -/
theorem ds_retDcK {wi : TI} {mi : MI} {ss vs : List Nat} (hi : DI w K wi mi) (hg : DG w K g mg ss) (ht : DT w K tt mt) (hk : DE w K tk mk) (he : DE w K tv mv) (sub : ∀ i ∈ ss, i ∈ vs) : DS w K (tRetF (tDc wi g tt tk tv vs)) (mRetDc selD .fk mi mg mt mk mv vs) :=
  ds_retDcG (fin := DV.fk) (R := fun H v x => Dp K H v x ∧ Pd x) (fun T H v dv z rv e => by
    unfold selD at e
    split at e
    · cases e; exact rv
    · cases e) (fun H H' v z r k _ => ⟨Dp.keep k _ _ r.2.1 r.1, r.2⟩) (fun T H a o ws acc e p => ⟨a, o, ws, rfl, e, p⟩) (fun _ => rfl) (fun _ => rfl) hi hg ht hk he sub
theorem ds_retDcR {wi : TI} {mi : MI} {ss vs : List Nat} (hi : DI w K wi mi) (hg : DG w K g mg ss) (ht : DT w K tt mt) (hk : DE w K tk mk) (he : DE w K tv mv) (sub : ∀ i ∈ ss, i ∈ vs) : DS w K (tRetF (tDc wi g tt tk tv vs)) (mRetDc selR .fr mi mg mt mk mv vs) :=
  ds_retDcG (fin := DV.fr) (R := RwAt K) (fun T H v dv z rv e => by
    unfold selR at e
    split at e
    · cases e; exact dp_none rv.1
    · cases e; exact rv
    · cases e) (fun H H' v z r k zk => RwAt.keep r k zk) (fun T H a o ws acc e p => ⟨a, o, ws, rfl, e, p⟩) (fun _ => rfl) (fun _ => rfl) hi hg ht hk he sub
end
/-! ### any, all of a generator expression -/
structure GenGoal (b : Bool) (g : MG) (me : ME) (vs : List Nat) (ε : Env) (xs : List PyData) (Q : MQ) : Prop where
  h : ∃ I : Nat → Prop, I 0 ∧ (∀ (i : Nat) (x : PyData), xs[i]? = some x → I i → g (.d x) (wipeE ε vs) fun ε' => me ε' fun dv => match dv with
      | .d (.bool c) => Cnd (c == b) (Q (.d (.bool b))) (I (i + 1))
      | _ => False) ∧ (I xs.length → Q (.d (.bool (!b))))
def mGen (b : Bool) (mi : MI) (g : MG) (me : ME) (vs : List Nat) (ε : Env) (Q : MQ) : Prop := mi ε fun ε1 xs => GenGoal b g me vs ε1 xs Q
theorem de_gen {w : World} {K : PySem.W.Frag} {te : TE} {me : ME} {g : TG} {mg : MG} {P : Addr} {b : Bool} {wi : TI} {mi : MI} {ss vs : List Nat} (hP : P ∈ Tb.ls) (hi : DI w K wi mi) (hg : DG w K g mg ss) (he : DE w K te me) (sub : ∀ i ∈ ss, i ∈ vs) :
    DE w K (Gx.tGen P b wi g te vs) (mGen b mi mg me vs) := by
  intro T F σ H ε Q Qm r h q
  refine hi T F σ H ε _ _ r h fun J H1 ε1 xs fzs k1 t1 r1 tk1 wk _ h1 => ⟨t1.2 P hP, ?_⟩
  obtain ⟨I, i0, hs, hd⟩ := h1.h
  refine ⟨fun i m H' => m = xs.length - i ∧ i ≤ xs.length ∧ Keep T H1 H' ∧ TOk T H' ∧ I i, ⟨_, rfl, Nat.zero_le _, Keep.refl, t1, i0⟩, ?_⟩
  rintro i m H' ⟨rfl, le, k', t', hI⟩
  have r' := r1.go k' t'
  have wk' := wk i H' (k'.tk t1) (fun p hp => (r'.fz p (List.mem_append_left _ hp)).1) t'
  by_cases lt : i < xs.length
  · obtain ⟨go, yl⟩ := wk'.2 _ (List.getElem?_eq_getElem lt)
    refine .inr ⟨go, fun x H2 y => ?_⟩
    obtain ⟨k2, t2, rv⟩ := yl x H2 y
    refine hg T _ _ H2 (wipeE ε1 vs) _ _ _ _ ((r'.go k2 t2).wipe vs) rv (hs i _ (List.getElem?_eq_getElem lt) hI) fun σ3 ε3 r3 wp h3 => ?_
    refine ⟨(wp vs sub).trans (wipe_wipe σ vs), he T _ σ3 H2 ε3 _ _ r3 h3 fun dv v H4 c h5 => ?_⟩
    split at h5
    · rename_i c'
      have kk := (k'.trans k2).trans c.k
      refine ⟨c', rv_bool c.rv, ?_⟩
      have h6 := h5.h
      by_cases e : c' = b
      · rw [if_pos e]
        rw [if_pos (by rw [e]; exact beq_self_eq_true b)] at h6
        exact q _ _ H4 (.plain (k1.trans kk) c.t ⟨.bl _, pd_bool _⟩) h6
      · rw [if_neg e]
        rw [if_neg (by intro z; exact e (beq_iff_eq.mp z))] at h6
        exact ⟨xs.length - (i + 1), by omega, rfl, lt, kk, c.t, h6⟩
    · exact h5.elim
  · have e : i = xs.length := by omega
    subst e
    exact .inl ⟨wk'.1 rfl, q _ _ H' (.plain (k1.trans k') t' ⟨.bl _, pd_bool _⟩) (hd hI)⟩
/-- by a function of the item -/
theorem gen_f {α : Type} {ε : Env} {b : Bool} {g : MG} {l : List α} {f : α → PyData} {me : ME} {vs : List Nat} {Q : MQ} (p : α → Bool) (hs : ∀ x ∈ l, ∀ (A B : Prop), (p x = b → A) → (p x = (!b) → B) → g (.d (f x)) (wipeE ε vs) fun ε' => me ε' fun dv => match dv with
      | .d (.bool c) => Cnd (c == b) A B
      | _ => False) (hd : Q (.d (.bool (if b then l.any p else l.all p)))) : GenGoal b g me vs ε (l.map f) Q := by
  refine ⟨fun i => ∀ x ∈ l.take i, p x = !b, (fun x m => by rw [List.take_zero] at m; cases m), fun i x hx hI => ?_, fun hI => ?_⟩
  · rw [List.getElem?_map] at hx
    obtain ⟨y, hy, rfl⟩ := Option.map_eq_some_iff.mp hx
    have my := List.mem_of_getElem? hy
    refine hs y my _ _ (fun e => ?_) fun e x m => ?_
    · cases b with
      | true =>
        have : l.any p = true := List.any_eq_true.mpr ⟨y, my, e⟩
        rw [if_pos rfl, this] at hd; exact hd
      | false =>
        have : l.all p = false := Bool.eq_false_iff.mpr fun z => by
          have := List.all_eq_true.mp z y my
          rw [e] at this; cases this
        rw [if_neg (by decide), this] at hd; exact hd
    · rw [List.take_add_one, hy] at m
      rcases List.mem_append.mp m with m | m
      · exact hI x m
      · have : x = y := by simpa using m
        rw [this]; exact e
  · have hI : ∀ x ∈ l, p x = !b := fun x m => hI x (by rw [List.length_map, List.take_of_length_le (Nat.le_refl _)]; exact m)
    cases b with
    | true =>
      have : l.any p = false := Bool.eq_false_iff.mpr fun z => by
        obtain ⟨y, my, e⟩ := List.any_eq_true.mp z
        rw [hI y my] at e; cases e
      rw [if_pos rfl, this] at hd; exact hd
    | false =>
      have : l.all p = true := List.all_eq_true.mpr fun x m => hI x m
      rw [if_neg (by decide), this] at hd; exact hd
end Mx
/-! rows by name; a condition's truth for them -/
namespace Mx
open PySem PySem.Spec PyProof.Rows L2 Tq
section
variable {β : Type}
theorem putB_new {kvs : List (Key × β)} {k : Key} {v : β} (h : k ∉ kvs.map (·.1)) : putB kvs k v = kvs ++ [(k, v)] := by
  unfold putB
  rw [if_neg]
  intro c
  obtain ⟨e, m, q⟩ := List.any_eq_true.mp c
  exact h (List.mem_map.mpr ⟨e, m, of_decide_eq_true q⟩)
theorem valB_cons {p : Key × β} {r : List (Key × β)} {k : Key} : valB (p :: r) k = if p.1 = k then some p.2 else valB r k := by
  unfold valB
  rw [List.find?_cons]
  by_cases e : p.1 = k
  · rw [decide_eq_true e, if_pos e]; rfl
  · rw [decide_eq_false e, if_neg e]
end
theorem valD_B (kvs : List (Key × PyData)) (k : Key) : valD kvs k = valB kvs k := rfl
/-- return {name: v for .. in ..}, the names different -/
theorem retDc {α β : Type} {sel : DV → Option β} {g : MG} {mt : MT} {mk mv : ME} {vs : List Nat} {ε : Env} {l : List α} {f : α → PyData} {R : List (Key × β) → Prop} (nm : α → Str) (v : α → β) (few : l.length ≤ 1000000) (nd : (l.map nm).Nodup)
    (hs : ∀ x ∈ l, ∀ (A N : Prop) (P : Key → β → Prop), A → P (.inr (nm x)) (v x) → g (.d (f x)) (wipeE ε vs) fun ε' => mt ε' fun b => Cnd b (mk ε' fun dk => mv ε' fun dv => match dk, sel dv with
      | .d y, some z => ∃ k, keyD y = some k ∧ A ∧ P k z
      | _, _ => False) N) (hd : R (l.map fun x => (.inr (nm x), v x))) : DcGoal sel g mt mk mv vs ε (l.map f) R := by
  refine ⟨fun k acc => acc = (l.take k).map fun x => (.inr (nm x), v x), rfl, fun k x acc hx e => ?_, fun acc e => ?_⟩
  · obtain ⟨y, hy, rfl⟩ := map_get hx
    have my := List.mem_of_getElem? hy
    have tk : l.take (k + 1) = l.take k ++ [y] := by rw [List.take_add_one, hy]; rfl
    refine hs y my (acc.length < sizeLine) _ (fun key z => putB acc key z = (l.take (k + 1)).map fun x => (.inr (nm x), v x)) ?_ ?_
    · rw [e, List.length_map]
      exact fits_lt (by have := (List.getElem?_eq_some_iff.mp hy).1; rw [List.length_take]; omega)
    · rw [tk, List.map_append, e]
      refine putB_new (fun m => ?_)
      rw [List.map_map] at m
      obtain ⟨u, mu, eu⟩ := List.mem_map.mp m
      have eu : nm u = nm y := Sum.inr.inj eu
      have n2 := nd.sublist ((List.take_sublist (k + 1) l).map nm)
      rw [tk, List.map_append] at n2
      exact (List.nodup_append.mp n2).2.2 _ (List.mem_map.mpr ⟨u, mu, rfl⟩) _ List.mem_cons_self eu
  · rw [e, List.length_map, List.take_of_length_le (Nat.le_refl _)]; exact hd
theorem zipD {α β : Type} {f : α → PyData} {g : β → PyData} : ∀ {as : List α} {bs : List β}, ((as.map f).zip (bs.map g)).map (fun p => PyData.tuple [p.1, p.2]) = (as.zip bs).map fun p => .tuple [f p.1, g p.2]
  | [], _ => rfl
  | _ :: _, [] => rfl
  | a :: as, b :: bs => by
    exact congrArg (PyData.tuple [f a, g b] :: ·) (zipD (as := as) (bs := bs))
theorem zip_sub {α β γ : Type} {f : α → γ} : ∀ {as : List α} {bs : List β}, ((as.zip bs).map fun p => f p.1).Sublist (as.map f)
  | [], _ => List.nil_sublist _
  | _ :: _, [] => List.nil_sublist _
  | a :: as, b :: bs => (zip_sub (as := as) (bs := bs)).cons_cons (f a)
/-- a row's cells by name; the rows by name -/
def cellsK (Cs : List Col) (cs : List Cel) : List (Key × PyData) := (Cs.zip cs).map fun p => (.inr p.1.name, p.2.d)
def rowsK (Ts : List Tab) (R : List CRow) : List (Key × Option (List (Key × PyData))) := (Ts.zip R).map fun p => (.inr p.1.name, p.2.map (cellsK p.1.cols))
theorem cells_look {c : Str} : ∀ {Cs : List Col} {cs : List Cel}, cs.length = Cs.length → c ∈ Cs.map Col.name → valD (cellsK Cs cs) (.inr c) = some (lookC Cs cs c).d
  | [], _, _, m => nomatch m
  | C :: Cs, [], l, _ => nomatch l
  | C :: Cs, x :: cs, l, m => by
    rw [valD_B]
    show valB ((.inr C.name, x.d) :: cellsK Cs cs) (.inr c) = some (if C.name = c then x else lookC Cs cs c).d
    rw [valB_cons]
    by_cases e : C.name = c
    · rw [if_pos e, if_pos (congrArg Sum.inr e)]
    · rw [if_neg e, if_neg (fun z => e (Sum.inr.inj z))]
      refine cells_look (Nat.succ.inj l) ?_
      rcases List.mem_cons.mp m with m | m
      · exact absurd m.symm e
      · exact m
def rowCel (r : CRow) (Cs : List Col) (c : Str) : Cel := match r with
  | none => .null
  | some cs => lookC Cs cs c
theorem lookT_row {T : Tab} {Ts : List Tab} {r : CRow} {R : List CRow} {t c : Str} : lookT (T :: Ts) (r :: R) t c = if T.name = t then rowCel r T.cols c else lookT Ts R t c := by cases r <;> rfl
theorem rows_look {t : Str} : ∀ {Ts : List Tab} {R : List CRow}, R.length = Ts.length → t ∈ Ts.map Tab.name → ∃ (k : Nat) (T : Tab) (r : CRow), Ts[k]? = some T ∧ R[k]? = some r ∧ T.name = t ∧ valB (rowsK Ts R) (.inr t) = some (r.map (cellsK T.cols)) ∧ hasRow Ts R t = r.isSome ∧ ∀ c, lookT Ts R t c = rowCel r T.cols c
  | [], _, _, m => nomatch m
  | T :: Ts, [], l, _ => nomatch l
  | T :: Ts, r :: R, l, m => by
    have e0 : rowsK (T :: Ts) (r :: R) = (.inr T.name, r.map (cellsK T.cols)) :: rowsK Ts R := rfl
    rw [e0, valB_cons, hasRow_cons]
    by_cases e : T.name = t
    · refine ⟨0, T, r, rfl, rfl, e, ?_, ?_, fun c => ?_⟩
      · rw [if_pos (congrArg Sum.inr e)]
      · rw [if_pos e]
      · rw [lookT_row, if_pos e]
    · have m2 : t ∈ Ts.map Tab.name := by
        rcases List.mem_cons.mp m with m | m
        · exact absurd m.symm e
        · exact m
      obtain ⟨k, T', r', h1, h2, h3, h4, h5, h6⟩ := rows_look (Ts := Ts) (R := R) (Nat.succ.inj l) m2
      refine ⟨k + 1, T', r', h1, h2, h3, ?_, ?_, fun c => ?_⟩
      · rw [if_neg (fun z => e (Sum.inr.inj z))]; exact h4
      · rw [if_neg e]; exact h5
      · rw [lookT_row, if_neg e]; exact h6 c
/-- an operand that names a column of the tables -/
def _root_.Tq.Opd.At (Ts : List Tab) : Opd → Prop
  | .cell _ => True
  | .col t c => ∃ T ∈ Ts, T.name = t ∧ c ∈ T.cols.map Col.name
theorem in_at {Ts : List Tab} {pl ws : List Str} {tx : Bool} : ∀ {o : Opd}, o.In Ts pl ws tx → o.At Ts
  | .cell _, _ => trivial
  | .col t c, ⟨T, m, e, C, mC, eC, _⟩ => ⟨T, m, e, List.mem_map.mpr ⟨C, mC, eC⟩⟩
theorem map_one {α β : Type} {f : α → β} : ∀ {l : List α}, (l.map f).Nodup → ∀ {x y : α}, x ∈ l → y ∈ l → f x = f y → x = y
  | [], _, _, _, m, _, _ => nomatch m
  | a :: l, n, x, y, mx, my, e => by
    rw [List.map_cons, List.nodup_cons] at n
    rcases List.mem_cons.mp mx with e1 | mx2 <;> rcases List.mem_cons.mp my with e2 | my2
    · rw [e1, e2]
    · exact absurd (by rw [← e1, e]; exact List.mem_map.mpr ⟨y, my2, rfl⟩) n.1
    · exact absurd (by rw [← e2, ← e]; exact List.mem_map.mpr ⟨x, mx2, rfl⟩) n.1
    · exact map_one n.2 mx2 my2 e
/-- an operand's cell, read by names -/
theorem at_look {Ts : List Tab} {R : List CRow} {t c : Str} (fm : FormN Ts R) (nn : (Ts.map Tab.name).Nodup) (h : (Opd.col t c).At Ts) : ∃ r : Option (List (Key × PyData)), valB (rowsK Ts R) (.inr t) = some r ∧ match r with
    | none => lookT Ts R t c = .null
    | some kvs => valD kvs (.inr c) = some (lookT Ts R t c).d := by
  obtain ⟨T, m, e, mc⟩ := h
  obtain ⟨k, T', r, h1, h2, h3, h4, _, h6⟩ := rows_look (R := R) fm.len (t := t) (List.mem_map.mpr ⟨T, m, e⟩)
  have := map_one nn (List.mem_of_getElem? h1) m (h3.trans e.symm)
  subst this
  refine ⟨_, h4, ?_⟩
  cases r with
  | none => exact h6 c
  | some cs =>
    show valD (cellsK T'.cols cs) (.inr c) = _
    rw [h6 c]
    exact cells_look (fm.row k T' cs h1 h2) mc
def fCells : List DV → MQ → Prop := fun dvs Q => ∃ Cs r, dvs = [.d (.tuple (Cs.map Col.d)), .d (rowD r)] ∧ (Cs.map Col.name).Nodup ∧ Cs.length ≤ 1000 ∧ Q (match r with
  | none => .d .none
  | some cs => .fk (cellsK Cs cs))
def fRows : List DV → MQ → Prop := fun dvs Q => ∃ Ts R, dvs = [.d (tabsD Ts), .d (recD R)] ∧ FormN Ts R ∧ (Ts.map Tab.name).Nodup ∧ (∀ T ∈ Ts, (T.cols.map Col.name).Nodup) ∧ Q (.fr (rowsK Ts R))
def fDenoted : List DV → MQ → Prop := fun dvs Q => ∃ Ts R o, dvs = [.d (Opd.d o), .fr (rowsK Ts R)] ∧ FormN Ts R ∧ (Ts.map Tab.name).Nodup ∧ o.At Ts ∧ Q (.d (o.ev Ts R).d)
def fIsTrue : Nat → List DV → MQ → Prop
  | 0 => fun _ _ => False
  | d + 1 => fun dvs Q => ∃ Ts pl tr R, dvs = [.d (Tr.d tr), .fr (rowsK Ts R)] ∧ FormN Ts R ∧ (Ts.map Tab.name).Nodup ∧ tr.Ok ∧ tr.Cn Ts pl ∧ tr.dep ≤ d ∧ Q (.d (.bool (tr.ev Ts R)))
def fHolds : List DV → MQ → Prop := fun dvs Q => ∃ Ts pl tr R, dvs = [.d (tabsD Ts), .d (Tr.d tr), .d (recD R)] ∧ FormN Ts R ∧ (Ts.map Tab.name).Nodup ∧ (∀ T ∈ Ts, (T.cols.map Col.name).Nodup) ∧ tr.Ok ∧ tr.Cn Ts pl ∧ tr.dep ≤ 23 ∧ Q (.d (.bool (tr.ev Ts R)))
theorem gen_end {c b : Bool} {A B : Prop} (hA : c = b → A) (hB : c = !b → B) : Cnd (c == b) A B := by
  cases c <;> cases b <;> exact ⟨by first | exact hA rfl | exact hB rfl⟩
theorem trsAll_all {Ts : List Tab} {R : List CRow} : ∀ ps : List Tr, ps.all (fun p => p.ev Ts R) = trsAll Ts R ps
  | [] => rfl
  | p :: ps => by rw [List.all_cons, trsAll_all ps]; rfl
theorem trsAny_any {Ts : List Tab} {R : List CRow} : ∀ ps : List Tr, ps.any (fun p => p.ev Ts R) = trsAny Ts R ps
  | [] => rfl
  | p :: ps => by rw [List.any_cons, trsAny_any ps]; rfl
end Mx
/-! the cell that an expression gives -/
namespace Tq
open Mx PySem
mutual
def Tr.given (Ts : List Tab) (R : List CRow) : Tr → Cel
  | .op o => o.ev Ts R
  | .ite ps e => brsGiven Ts R ps (e.given Ts R)
  | .tru => .null
  | .fls => .null
  | .ex _ => .null
  | .cmp _ _ _ => .null
  | .neg _ => .null
  | .jn _ _ => .null
def brsGiven (Ts : List Tab) (R : List CRow) : List (Tr × Tr) → Cel → Cel
  | [], x => x
  | (a, b) :: r, x => if a.ev Ts R then b.given Ts R else brsGiven Ts R r x
end
end Tq
namespace Mx
open PySem PySem.Spec PyProof.Rows L2 Tq
theorem celEq_self (a : Cel) : PyData.eqv a.d a.d = true := by
  rw [celEq_eqv]
  cases a <;> first | rfl | exact decide_eq_true rfl
theorem map_ex {α β : Type} {f : α → β} {P : α → Prop} : ∀ {ys : List β}, (∀ y ∈ ys, ∃ a, y = f a ∧ P a) → ∃ l : List α, ys = l.map f ∧ ∀ a ∈ l, P a
  | [], _ => ⟨[], rfl, fun _ m => nomatch m⟩
  | y :: ys, h => by
    obtain ⟨a, rfl, pa⟩ := h y List.mem_cons_self
    obtain ⟨l, rfl, pl⟩ := map_ex (ys := ys) fun z m => h z (List.mem_cons_of_mem _ m)
    refine ⟨a :: l, rfl, fun x m => ?_⟩
    rcases List.mem_cons.mp m with rfl | m
    · exact pa
    · exact pl x m
theorem rel_all {α β : Type} {l : List α} {ys : List β} {P : β → Prop} (e : ys.length = l.length) (h : ∀ (k : Nat) x y, l[k]? = some x → ys[k]? = some y → P y) : ∀ y ∈ ys, P y := fun y m => by
  obtain ⟨k, hk⟩ := List.mem_iff_getElem?.mp m
  have := (List.getElem?_eq_some_iff.mp hk).1
  exact h k _ y (List.getElem?_eq_getElem (by omega)) hk
def fGiven : Nat → List DV → MQ → Prop
  | 0 => fun _ _ => False
  | d + 1 => fun dvs Q => ∃ Ts pl ws tx tr R, dvs = [.d (Tr.d tr), .fr (rowsK Ts R)] ∧ FormN Ts R ∧ (Ts.map Tab.name).Nodup ∧ tr.Ok ∧ tr.Ex Ts pl ws tx ∧ tr.dep ≤ d ∧ tr.dep ≤ 23 ∧ Q (.d (tr.given Ts R).d)
def fLGiven : Nat → List DV → MQ → Prop
  | 0 => fun _ _ => False
  | d + 1 => fun dvs Q => ∃ Ts pl ws tx tr R, dvs = [.d (tabsD Ts), .d (Tr.d tr), .d (recD R)] ∧ FormN Ts R ∧ (Ts.map Tab.name).Nodup ∧ tr.Ok ∧ tr.Ex Ts pl ws tx ∧ tr.dep ≤ d ∧ tr.dep ≤ 23 ∧ Q (.d (tr.given Ts R).d)
def fCellOf : List DV → MQ → Prop := fun dvs Q => ∃ Ts pl ws tx tr R, dvs = [.d (tabsD Ts), .d (Tr.d tr), .d (recD R)] ∧ FormN Ts R ∧ (Ts.map Tab.name).Nodup ∧ (∀ T ∈ Ts, (T.cols.map Col.name).Nodup) ∧ tr.Ok ∧ tr.Ex Ts pl ws tx ∧ tr.dep ≤ 23 ∧ Q (.d (tr.given Ts R).d)
def fDeeper : List DV → MQ → Prop := fun dvs Q => ∃ Ts pl ws tx tr os, ∃ m : Int, dvs = [.tp, .d (Tr.d tr), .l false false (os.map Opd.d), .d (.int m)] ∧ tr.Ok ∧ tr.Ex Ts pl ws tx ∧ os ≠ [] ∧ (∀ o ∈ os, o.Ok ∧ o.In Ts pl ws tx) ∧ os.length ≤ 100 ∧ 0 ≤ m ∧ m ≤ 100 ∧
  ∀ tr' : Tr, tr'.Ok → tr'.Ex Ts pl ws tx → tr'.dep ≤ max tr.dep 3 + m.toNat → Q (.d tr'.d)
end Mx
/-! The end of a law whose defs make generators: their tables are left out of what is known, tracked by what stays true of them. -/
namespace Mx
open PySem PySem.Spec PyProof.Rows L2 Tq
def tabAt (K : PySem.W.Frag) (a : Addr) : Bool := match K.lookup a with
  | some o => He.emptyTab o
  | none => false
/-- what is known, but for empty tables -/
def dropT (K : PySem.W.Frag) : PySem.W.Frag := K.filter fun q => !tabAt K q.1
theorem look_key (p : Addr → Bool) (a : Addr) : ∀ K : List (Addr × Obj), (K.filter fun q => p q.1).lookup a = if p a = true then K.lookup a else none
  | [] => by simp
  | (b, u) :: r => by
    rw [List.filter_cons, List.lookup_cons]
    cases hb : a == b with
    | true =>
      have e : a = b := beq_iff_eq.mp hb
      subst e
      by_cases hp : p a = true
      · rw [if_pos hp, if_pos hp, List.lookup_cons, hb]
      · rw [if_neg hp, if_neg hp, look_key p a r, if_neg hp]
    | false =>
      by_cases hp : p b = true
      · rw [if_pos hp, List.lookup_cons, hb]; exact look_key p a r
      · rw [if_neg hp]; exact look_key p a r
section
variable {K : PySem.W.Frag} {a f c P : Addr} {x : Str} {o : Obj}
theorem look_drop (h : K.lookup a = some o) (e : He.emptyTab o = false) : (dropT K).lookup a = some o := by
  unfold dropT
  rw [look_key (fun b => !tabAt K b), if_pos (by show (!tabAt K a) = true; unfold tabAt; rw [h]; show (!He.emptyTab o) = true; rw [e]; rfl), h]
theorem drop_in {h : Heap} (k : K.In h) : (dropT K).In h := fun b u e => by
  unfold dropT at e
  rw [look_key (fun b => !tabAt K b)] at e
  split at e
  · exact k b u e
  · cases e
theorem none_drop {h : Heap} (k : K.In h) (e : h.get? P = some { cls := .none, data := .fields #[] }) : (dropT K).lookup P = none := by
  unfold dropT
  rw [look_key (fun b => !tabAt K b)]
  split
  · rename_i hp
    cases q : K.lookup P with
    | none => rfl
    | some u =>
      have := k P u q
      rw [e] at this; cases this
      exfalso
      have hp : (!tabAt K P) = true := hp
      unfold tabAt at hp
      rw [q] at hp
      exact absurd hp (by decide)
  · rfl
theorem ns_drop {r : Option Value} (h : PySem.W.nsIn K a x = some r) : PySem.W.nsIn (dropT K) a x = some r := by
  unfold PySem.W.nsIn at *
  split at h
  · rename_i oc od es ep sl e
    rw [look_drop e (by unfold He.emptyTab; split <;> first | rfl | (rename_i z; cases z))]
    exact h
  · cases h
theorem fn_drop {oc : Value} {od : Option Addr} {fd : FuncData} {sl : Array (Option Value)} (h : K.lookup f = some ⟨oc, od, .func fd, sl⟩) : (dropT K).lookup f = some ⟨oc, od, .func fd, sl⟩ :=
  look_drop h (by unfold He.emptyTab; split <;> first | rfl | (rename_i z; cases z))
theorem tp_drop {o : Obj} {vs : Array Value} {n : Nat} (h : K.lookup f = some o) (d : o.data = .seq vs n) : (dropT K).lookup f = some o :=
  look_drop h (by unfold He.emptyTab; split <;> first | rfl | (cases d))
theorem code_drop {cd : Value} (h : PySem.W.codeIn K cd x = true) : PySem.W.codeIn (dropT K) cd x = true := by
  unfold PySem.W.codeIn at *
  split at h
  · split at h
    · rename_i oc od vs sl e
      split at h
      · rename_i a n t r hv
        rw [look_drop e (by
          unfold He.emptyTab
          split
          · rename_i z
            cases z
            rw [show vs.isEmpty = false from by
              cases hh : vs.isEmpty with
              | false => rfl
              | true => rw [Array.isEmpty_iff.mp hh] at hv; cases hv]
            rfl
          · rfl)]
        simp only [hv]
        exact h
      · cases h
    · cases h
  · cases h
theorem hd_drop (h : PySem.W.codeHdIn K c P = true) : PySem.W.codeHdIn (dropT K) c P = true := by
  unfold PySem.W.codeHdIn at *
  split at h
  · rename_i od vs sl e
    rw [look_drop e rfl]
    exact h
  · cases h
theorem kp_drop {oc : Value} {od : Option Addr} {fd : FuncData} {sl : Array (Option Value)} (h : K.lookup f = some ⟨oc, od, .func fd, sl⟩) : PySem.W.keepIn (dropT K) (.ref f) = true := by
  show (match (dropT K).lookup f with
    | some ⟨_, _, .func _, _⟩ => true
    | some ⟨_, _, .cls _, _⟩ => PySem.W.specialIn (dropT K) (.ref f) "__call__" == some (some (.builtin "type.__call__"))
    | _ => false) = true
  rw [fn_drop h]
end
def hdB (vs : Array Value) (c P : Addr) : Bool := (match (vs[11]? : Option Value) with | some (.ref P') => P' == P | _ => false) &&
  (match vs.getD 18 .none with | .str _ _ => true | _ => false) && (match vs.getD 7 .none with | .int _ _ => true | _ => false) &&
  (match vs.getD 9 .none with | .bool _ => true | _ => false) && (match vs.getD 10 .none with | .int _ _ => true | _ => false) && c != P
theorem hd_of {K : PySem.W.Frag} {c P : Addr} {od : Option Addr} {vs : Array Value} {sl : Array (Option Value)} (h : K.lookup c = some ⟨.type "code", od, .fields vs, sl⟩) (r : hdB vs c P = true) : PySem.W.codeHdIn K c P = true := by
  unfold PySem.W.codeHdIn
  rw [h]
  exact r
/-! ### tables by what stays true of them -/
def extH (cs : List (Addr × Addr)) (H : Hp) : Hp := fun b => if b ∈ cs.map (·.2) then some (.ext (Gx.TabX b)) else H b
def spLawT [Tb] (K : PySem.W.Frag) : Sp := fun vs H Q _ => ∃ (a : Addr) (ns : List Int), vs = [.ref a] ∧ SqL K H a (ns.map V.int) ∧ ns.length ≤ 63 ∧ (∀ k ∈ ns, Builtin.Int.intBits k ≤ 1048576) ∧ (∀ P ∈ Tb.ls, Gx.TabE H P) ∧ ∀ H', (∀ P ∈ Tb.ls, Gx.TabE H' P) → Q (.bl true) H'
def tabHas (h : Heap) (b : Addr) : Array Value := match h.get? b with
  | some ⟨_, _, .fields ps, _⟩ => ps
  | _ => #[]
def bakH (cs : List (Addr × Addr)) (h : Heap) (H : Hp) : Hp := fun b => if b ∈ cs.map (·.2) then some (.tbl (tabHas h b)) else H b
theorem tab_fn {Pg : Program} {w : World} {K : PySem.W.Frag} {mg : Str → Option Value} {base : Heap} {k : Nat} {f : Addr} {fd : FuncData} {x : Str} (cs : List (Addr × Addr)) (nT : ∀ p ∈ cs, K.lookup p.2 = none) (F : FnOk Pg w K mg base L2.CX0 k f fd [x] (@spLawT ⟨cs.map (·.2)⟩ K)) :
    FnOk Pg w K mg base L2.CX0 k f fd [x] fun vs H Q _ => (∃ (a : Addr) (ns : List Int), vs = [.ref a] ∧ SqL K H a (ns.map V.int) ∧ ns.length ≤ 63 ∧ ∀ k ∈ ns, Builtin.Int.intBits k ≤ 1048576) ∧ (∀ p ∈ cs, H p.2 = some (.tbl #[])) ∧ ∀ H', Q (.bl true) H' := by
  refine ⟨fun vs H Q E ⟨⟨a, ns, e, _⟩, _⟩ => by rw [e]; rfl, fun A outer s H args us vs Q E hr e0 hb hv ⟨⟨a, ns, e, hS, few, bits⟩, hT, hQ⟩ => ?_⟩
  have isT : ∀ b ∈ cs.map (·.2), H b = some (.tbl #[]) := fun b hb => by
    obtain ⟨p, hp, q⟩ := List.mem_map.mp hb
    rw [← q]; exact hT p hp
  have in_ : ∀ {b : Addr}, b ∈ cs.map (·.2) → extH cs H b = some (.ext (Gx.TabX b)) := fun {b} hb => if_pos hb
  have out : ∀ {b : Addr}, b ∉ cs.map (·.2) → extH cs H b = H b := fun {b} hb => if_neg hb
  have nT : ∀ {b : Addr} {u : HO}, H b = some u → (∀ ps, u ≠ .tbl ps) → b ∉ cs.map (·.2) := fun {b u} q n hb => by
    rw [isT b hb] at q; exact n _ (Option.some.inj q).symm
  have nN : ∀ {b : Addr}, H b = none → b ∉ cs.map (·.2) := fun {b} q hb => by rw [isT b hb] at q; cases q
  have hokX : HOk Pg w (extH cs H) s.heap := fun b u q => by
    by_cases hb : b ∈ cs.map (·.2)
    · rw [in_ hb] at q; cases q
      have t : s.heap.get? b = some { cls := .none, data := .fields #[] } := e0.hok b _ (isT b hb)
      exact Gx.tabX_obj ⟨#[], t, trivial⟩
    · rw [out hb] at q
      exact (e0.hok b u q).stay (fun _ _ _ q => q) (fun c q => by rw [out (nT q (by intro _ z; cases z))]; exact q) fun c xs q => by rw [out (nT q (by intro _ z; cases z))]; exact q
  have e1 : Env0 Pg w K mg base A outer s (extH cs H) := ⟨e0.frames, e0.mod, fun b o q => ⟨(e0.bs b o q).1, by rw [out (nN (e0.bs b o q).2)]; exact (e0.bs b o q).2⟩, e0.bsz, e0.funs, fun b hb => by rw [out (nN (e0.frf b hb))]; exact e0.frf b hb, hokX, e0.bare⟩
  have sq : SqL K (extH cs H) a (ns.map V.int) := by
    rcases hS with hS | hS
    · rcases hS with hS | ⟨o, hS⟩
      · exact .inl (.inl (by rw [out (nT hS (by intro _ z; cases z))]; exact hS))
      · exact .inl (.inr ⟨o, by rw [out (nT hS (by intro _ z; cases z))]; exact hS⟩)
    · exact .inr hS
  refine codeAny_mono (F.run A outer s (extH cs H) args us vs (fun v H' => v = .bl true ∧ ∀ b ∈ cs.map (·.2), Gx.TabE H' b) E hr e1 hb hv ⟨a, ns, e, sq, few, bits, fun P hP => in_ hP, fun H' q => ⟨rfl, q⟩⟩) fun r s' h => ?_
  cases r with
  | error e => exact h
  | ok fl =>
    cases fl with
    | next => exact h
    | brk => exact h
    | cont => exact h
    | ret u =>
      obtain ⟨v, H1, os, bare, un, hok, rv, rfl, tb⟩ := h
      have in2 : ∀ {b : Addr}, b ∈ cs.map (·.2) → bakH cs s'.heap H1 b = some (.tbl (tabHas s'.heap b)) := fun {b} hb => if_pos hb
      have out2 : ∀ {b : Addr}, b ∉ cs.map (·.2) → bakH cs s'.heap H1 b = H1 b := fun {b} hb => if_neg hb
      have nX : ∀ {b : Addr} {u : HO}, H1 b = some u → (∀ φ, u ≠ .ext φ) → b ∉ cs.map (·.2) := fun {b u} q n hb => by
        rw [show H1 b = _ from tb b hb] at q; exact n _ (Option.some.inj q).symm
      refine ⟨.bl true, bakH cs s'.heap H1, os, bare, ⟨fun b o q n hf hx => un.keep b o q (by rw [out (nN n)]; exact n) hf hx, fun b o q n hf hx => un.slot b o q (by rw [out (nN n)]; exact n) hf hx, fun b o q n hx => ?_, un.there, fun b xs q => ?_, fun b o u q => ?_, fun b ps q => ?_⟩, fun b u q => ?_, rv, hQ _⟩
      · rw [out2 (nN n)]; exact un.free b o q (by rw [out (nN n)]; exact n) hx
      · have nb := nT q (by intro _ z; cases z)
        rw [out2 nb]; exact un.tups b xs (by rw [out nb]; exact q)
      · have nb := nT q (by intro _ z; cases z)
        rw [out2 nb]; exact un.frzs b o u (by rw [out nb]; exact q)
      · by_cases hb : b ∈ cs.map (·.2)
        · rw [isT b hb] at q; cases q
          exact ⟨tabHas s'.heap b, by rw [Array.empty_append]; exact in2 hb⟩
        · rw [out2 hb]; exact un.tbls b ps (by rw [out hb]; exact q)
      · by_cases hb : b ∈ cs.map (·.2)
        · rw [in2 hb] at q; cases q
          obtain ⟨ps, e2, _⟩ := (hok b _ (tb b hb)).1
          show s'.heap.get? b = some { cls := .none, data := .fields (tabHas s'.heap b) }
          unfold tabHas
          rw [e2]
        · rw [out2 hb] at q
          exact (hok b u q).stay (fun _ _ _ q => q) (fun c q => by rw [out2 (nX q (by intro _ z; cases z))]; exact q) fun c xs q => by rw [out2 (nX q (by intro _ z; cases z))]; exact q
theorem walk_tab {l : PySem.W.OpenLaw} {n k : Nat} {q : Program} {loose : List Str} {XP : (Str → Option Value) → Heap → Prop} {YP : World → Heap → Prop} {d : DefRec} {K : Params → PySem.W.Frag} {x : Str}
    (hn : l.most = some n) (hn2 : n ≤ 63) (hdf : d.params.defaults = []) (hr : Room k callerA) (hY : ∀ (w : World) (h : Heap), YP w h → (K w.params).In h)
    (F : ∀ (w : World) (mg : Str → Option Value) (fa : Addr) (h : Heap), (K w.params).In h → h.Ns mainGlobals mg → mg d.name = some (.ref fa) →
      (∀ {e : DefRec} {y : Str} {c P : Addr}, (recsOf q).find? (fun e => e.name == y) = some e → PySem.W.tabIn (K w.params) y = some (c, P) → h.get? P = some { cls := .none, data := .fields #[] }) →
      ∃ (fd : FuncData) (cs : List (Addr × Addr)), (∀ p ∈ cs, h.get? p.2 = some { cls := .none, data := .fields #[] }) ∧ (∀ p ∈ cs, PySem.W.codeHdIn (K w.params) p.1 p.2 = true) ∧
      (∀ (s : Shared) (u : Value), BindsTo s fd ⟨[u], []⟩ [(x, u)]) ∧ ∀ base : Heap, (dropT (K w.params)).In base → base.Ns mainGlobals mg → @Bs ⟨cs.map (·.2)⟩ base mg → FnOk l.prog w (dropT (K w.params)) mg base L2.CX0 k fa fd [x] (@spLawT ⟨cs.map (·.2)⟩ (dropT (K w.params)))) :
    PySem.W.WalkO q loose XP YP l.row.toRowW d [] (fun f vs => PySem.call f vs) := by
  refine Att.attach_callB hn hdf fun w s₀ s₁ mg mb fa o pm cd doc a vs ns G Y _ _ _ hmg hobj hints hlen hbits hg => ?_
  have KX := hY w _ Y
  obtain ⟨fd, cs, hT, hC, hb, hF⟩ := F w mg fa _ KX G.T.g hmg fun hr ht => (PySem.W.tab_of G.T KX hr ht).2
  refine LamX.law_callTs (K := dropT (K w.params)) (CX := L2.CX0) (cs := cs) (drop_in KX) G.T.g G.T.b G.T.builtins G.T.nolimit hg hT (fun p hp => none_drop KX (hT p hp)) (fun p hp => PySem.W.codeHd_of_K KX (hC p hp)) G.T.bmain hobj hints (Nat.le_trans hlen (Nat.le_trans hn2 (by decide))) hr
    (sp := fun vs H Q _ => (∃ (a : Addr) (ns : List Int), vs = [.ref a] ∧ SqL (dropT (K w.params)) H a (ns.map V.int) ∧ ns.length ≤ 63 ∧ ∀ k ∈ ns, Builtin.Int.intBits k ≤ 1048576) ∧ (∀ p ∈ cs, H p.2 = some (.tbl #[])) ∧ ∀ H', Q (.bl true) H') (fun base hK hG hTB => tab_fn cs (fun p hp => none_drop KX (hT p hp)) (hF base hK hG ?_)) hb
    (fun H hH hS => ⟨⟨a, ns, rfl, hS, Nat.le_trans hlen hn2, hbits⟩, hH, fun _ => rfl⟩) (fun _ _ _ h => h)
  refine @Bs.mk ⟨cs.map (·.2)⟩ base mg fun P hP => ?_
  obtain ⟨p, hp, rfl⟩ := List.mem_map.mp hP
  exact ⟨(hTB p hp).bm, (hTB p hp).gP⟩
end Mx
namespace Tq
open PySem PySem.Spec PyProof.Rows L2
theorem l_gt12 {K : PySem.W.Frag} {n m k i j : Nat} {a b : Addr} {x y z : V} {σ : L2.St} {H : Hp} {R : L2.St → Hp → Prop} (hn : n = 2) (hm : m = 2) (h : SqT K H a [x, .ref b]) (h2 : SqT K H b [y, z]) (q : R (((σ.set k (some x)).set i (some y)).set j (some z)) H) :
    gTup K n (gCons (gName k) (gCons (gTup K m (gCons (gName i) (gCons (gName j) gNil))) gNil)) (.ref a) σ H R :=
  ⟨a, _, rfl, h, hn.symm, x, _, rfl, .ref b, _, rfl, b, _, rfl, h2, hm.symm, y, _, rfl, z, _, rfl, rfl, rfl, q⟩
/-- a pair of the list tells what holds up to the next one -/
theorem PCh.at {g : Int → Int} : ∀ {ch : List (Int × Int)} {a0 : Int} {i : Nat} {a s : Int}, PCh g a0 ch none → ((a0, sgn (g a0)) :: ch)[i]? = some (a, s) →
    s = sgn (g a) ∧ a0 ≤ a ∧ (∀ b, (((a0, sgn (g a0)) :: ch)[i + 1]?).map (·.1) = some b → a < b) ∧ ∀ m, a ≤ m → (∀ b, (((a0, sgn (g a0)) :: ch)[i + 1]?).map (·.1) = some b → m < b) → sgn (g m) = s
  | [], a0, 0, a, s, h, e => by
    have e := Option.some.inj e
    cases e
    exact ⟨rfl, Int.le_refl _, (fun b hb => by simp at hb), fun m hm _ => h m hm (fun b hb => nomatch hb)⟩
  | [], a0, i + 1, a, s, h, e => by simp at e
  | (n, t) :: r, a0, 0, a, s, h, e => by
    have e := Option.some.inj e
    cases e
    obtain ⟨x1, x2, x3, x4, x5, x6⟩ := h
    refine ⟨rfl, Int.le_refl _, (fun b hb => by have : n = b := by simpa using hb
                                                omega), fun m hm hb => x3 m hm (hb n (by simp))⟩
  | (n, t) :: r, a0, i + 1, a, s, h, e => by
    obtain ⟨x1, x2, x3, x4, x5, x6⟩ := h
    subst x4
    have e' : ((n, sgn (g n)) :: r)[i]? = some (a, s) := by simpa using e
    obtain ⟨y1, y2, y3, y4⟩ := PCh.at x6 e'
    exact ⟨y1, by omega, (fun b hb => y3 b (by simpa using hb)), fun m hm hb => y4 m hm fun b hb' => hb b (by simpa using hb')⟩
theorem Mon.far {f : Int → Int} {a s : Int} (h : Mon f s a none) : ∀ k : Nat, (s = 1 → f a + k ≤ f (a + k)) ∧ (s = -1 → f (a + k) ≤ f a - k)
  | 0 => by simp
  | k + 1 => by
    have ih := h.far k
    have st := h (a + k) (by omega) (fun b hb => nomatch hb)
    have e1 : a + ((k + 1 : Nat) : Int) = a + k + 1 := by omega
    rw [e1]
    rcases sgn_cases (f (a + k + 1) - f (a + k)) with ⟨x, y⟩ | ⟨x, y⟩ | ⟨x, y⟩
    · exact ⟨fun q => by have := ih.1 q; omega, fun q => by omega⟩
    · exact ⟨fun q => by omega, fun q => by omega⟩
    · exact ⟨fun q => by omega, fun q => by have := ih.2 q; omega⟩
/-- all far out have one sign -/
theorem far_const {xs : List Int} (t : trim xs = xs) : ∃ c, ∀ m : Int, (l1 xs : Int) + 1 ≤ m → sgn (valL xs m) = c := by
  by_cases e : xs = []
  · subst e
    exact ⟨0, fun m _ => rfl⟩
  · have h := List.getLast?_eq_some_getLast e
    exact ⟨_, fun m hm => sgn_far h (trim_last t h) m (by omega)⟩
theorem far_slope {xs : List Int} {s a M : Int} (t : trim xs = xs) (h : Mon (valL xs) s a none) (sb : -1 ≤ s ∧ s ≤ 1) (ha : a ≤ M) (hM : (l1 xs : Int) + 1 ≤ M) : ∀ m, M ≤ m → sgn (valL xs m) = if s = 0 then sgn (valL xs a) else s := by
  intro m hm
  obtain ⟨c, hc⟩ := far_const t
  by_cases z : s = 0
  · rw [if_pos z]
    have l := h.sgn_le (Int.le_refl a) (show a ≤ m by omega) (fun b hb => nomatch hb)
    have := l.1 (by omega)
    have := l.2 (by omega)
    omega
  · rw [if_neg z, hc m (by omega)]
    obtain ⟨k, hk⟩ : ∃ k : Nat, (k : Int) = (M - a) + (valL xs a).natAbs + 1 := ⟨((M - a) + (valL xs a).natAbs + 1).toNat, by omega⟩
    have f := h.far k
    have e := hc (a + k) (by omega)
    rw [← e]
    rcases sgn_cases (valL xs (a + k)) with ⟨x, y⟩ | ⟨x, y⟩ | ⟨x, y⟩ <;> rcases (show s = 1 ∨ s = -1 by omega) with g | g
    · omega
    · have := f.2 g; omega
    · have := f.1 g; omega
    · have := f.2 g; omega
    · have := f.1 g; omega
    · omega
/-- the product's length -/
theorem out_top (xs ys : List Int) {k : Nat} (hk : k + 1 = xs.length + ys.length) (h1 : 0 < ys.length) : ∀ i : Nat, i ≤ xs.length → (out xs ys i)[k]? = some 0
  | 0, _ => by rw [out, List.getElem?_replicate]; rw [if_pos (by omega)]
  | i + 1, h => by rw [out, inn_get ys.length (by omega)]; exact out_top xs ys hk h1 i (by omega)
theorem mul_len1 {xs ys : List Int} (h1 : 0 < ys.length) : (mulL xs ys).length + 1 ≤ xs.length + ys.length := by
  have t := trim_short (xs := out xs ys xs.length) (k := xs.length + ys.length - 1) (by rw [out_len]; omega) (out_top xs ys (by omega) h1 xs.length (Nat.le_refl _))
  unfold mulL
  omega
theorem at_natP {α : Type} {xs : List α} {i : Nat} {v : α} (h : xs[i]? = some v) : atI xs (i : Int) = some v := by
  have l : i < xs.length := (List.getElem?_eq_some_iff.mp h).1
  unfold atI ixN
  rw [if_pos (by omega), if_pos (by omega), Int.toNat_natCast]
  exact h
end Tq
namespace Tq
open PySem PySem.Spec PyProof.Rows L2
theorem PCh.ne {g : Int → Int} : ∀ {ch : List (Int × Int)} {a0 : Int} {i : Nat} {a s b t : Int} {e : Option Int}, PCh g a0 ch e → ((a0, sgn (g a0)) :: ch)[i]? = some (a, s) → ((a0, sgn (g a0)) :: ch)[i + 1]? = some (b, t) → s ≠ t
  | [], a0, i, a, s, b, t, e, h, _, e2 => by simp at e2
  | (n, u) :: r, a0, 0, a, s, b, t, e, h, e1, e2 => by
    obtain ⟨x1, x2, x3, x4, x5, x6⟩ := h
    have e1 := Option.some.inj e1
    cases e1
    have e2 : (n, u) = (b, t) := by simpa using e2
    cases e2
    exact fun z => x5 z.symm
  | (n, u) :: r, a0, i + 1, a, s, b, t, e, h, e1, e2 => by
    obtain ⟨x1, x2, x3, x4, x5, x6⟩ := h
    subst x4
    exact PCh.ne (i := i) x6 (by simpa using e1) (by simpa using e2)
/-- the last pair that is not behind n -/
def lastAt (n acc : Int) (l : List (Int × Int)) : Int := l.foldl (fun acc q => if q.1 ≤ n then q.2 else acc) acc
theorem lastAt_none {n acc : Int} : ∀ {l : List (Int × Int)}, (∀ q ∈ l, n < q.1) → lastAt n acc l = acc
  | [], _ => rfl
  | q :: r, h => by
    have hq := h q List.mem_cons_self
    unfold lastAt
    rw [List.foldl_cons, if_neg (by omega)]
    exact lastAt_none fun x m => h x (List.mem_cons_of_mem _ m)
theorem lastAt_sgn {f : Int → Int} {n : Int} : ∀ {ch : List (Int × Int)} {a : Int}, PCh f a ch none → a ≤ n → lastAt n (sgn (f a)) ch = sgn (f n)
  | [], a, h, ha => (h n ha (fun b hb => nomatch hb)).symm
  | (b, t) :: r, a, h, ha => by
    obtain ⟨x1, x2, x3, x4, x5, x6⟩ := h
    by_cases g : b ≤ n
    · have ih := lastAt_sgn x6 g
      unfold lastAt at *
      rw [List.foldl_cons, if_pos g, x4]
      exact ih
    · have e := lastAt_none (n := n) (acc := sgn (f a)) (l := (b, t) :: r) fun q hq => by
        rcases List.mem_cons.mp hq with z | z
        · rw [z]; show n < b; omega
        · have := (PCh.up x6 q z).1
          omega
      rw [e, x3 n ha (by omega)]
theorem lastAt_snoc (n acc : Int) (l : List (Int × Int)) (q : Int × Int) : lastAt n acc (l ++ [q]) = if q.1 ≤ n then q.2 else lastAt n acc l := by
  unfold lastAt
  rw [List.foldl_append]; rfl
theorem l1_le {B : Nat} : ∀ {xs : List Int}, (∀ z ∈ xs, z.natAbs ≤ B) → l1 xs ≤ xs.length * B
  | [], _ => by simp [l1]
  | x :: r, h => by
    have ih := l1_le fun z m => h z (List.mem_cons_of_mem _ m)
    have hx := h x List.mem_cons_self
    rw [l1_cons, List.length_cons, Nat.succ_mul]
    omega
theorem bits_lt {z : Int} {B : Nat} (h : Builtin.Int.intBits z ≤ B) : z.natAbs < 2 ^ B := by
  unfold Builtin.Int.intBits at h
  by_cases e : z = 0
  · subst e
    exact Nat.pow_pos (by decide)
  · rw [if_neg (by simpa using e)] at h
    exact Nat.lt_of_lt_of_le Nat.lt_log2_self (Nat.pow_le_pow_right (by decide) h)
theorem seq_new {K : PySem.W.Frag} {H H' : Hp} {t s : Addr} {xs : List V} (h : SqL K H s xs) (n : H t = none) (b : ∀ c o, c ≠ t → H c = some o → H' c = some o) : SqL K H' s xs := by
  rcases h with (h | ⟨o, h⟩) | h
  · exact .inl (.inl (b _ _ (ne_of_none h n) h))
  · exact .inl (.inr ⟨o, b _ _ (ne_of_none h n) h⟩)
  · exact .inr h
end Tq
namespace Tq
open PySem PySem.Spec PyProof.Rows L2
theorem val_sum (a b : List Int) (x : Int) : ∀ n : Nat, valL (sumL a b n) x = valL (a.take n) x + valL (b.take n) x
  | 0 => by simp [sumL, val_nil]
  | n + 1 => by
    have st : ∀ c : List Int, valL (c.take (n + 1)) x = valL (c.take n) x + c.getD n 0 * x ^ n := fun c => by
      by_cases h : n < c.length
      · exact val_take x h
      · rw [List.take_of_length_le (by omega), List.take_of_length_le (by omega), getD_none (by omega)]; simp
    rw [sumL_succ, val_app, val_sum a b x n, sumL_len, st a, st b, val_cons, val_nil]
    grind
theorem val_add (a b : List Int) (x : Int) : valL (addL a b) x = valL a x + valL b x := by
  unfold addL
  rw [val_trim, val_sum, List.take_of_length_le (by omega), List.take_of_length_le (by omega)]
theorem val_out (xs ys : List Int) (x : Int) : ∀ i : Nat, i ≤ xs.length → valL (out xs ys i) x = valL (xs.take i) x * valL ys x
  | 0, _ => by rw [out, val_rep]; simp [val_nil]
  | i + 1, h => by
    rw [out, val_inn x ys.length (Nat.le_refl _) (by rw [out_len]; omega), val_out xs ys x i (by omega), List.take_length, val_take x (show i < xs.length by omega)]
    grind
theorem val_mul (xs ys : List Int) (x : Int) : valL (mulL xs ys) x = valL xs x * valL ys x := by
  unfold mulL
  rw [val_trim, val_out xs ys x xs.length (Nat.le_refl _), List.take_length]
theorem val_negs (ys : List Int) (x : Int) : valL (ys.map fun z => 0 - z) x = - valL ys x := by
  induction ys with
  | nil => rfl
  | cons y r ih => rw [List.map_cons, val_cons, val_cons, ih]; grind
theorem l1_negs (ys : List Int) : l1 (ys.map fun z => 0 - z) = l1 ys := by
  induction ys with
  | nil => rfl
  | cons y r ih => rw [List.map_cons, l1_cons, l1_cons, ih]; omega
theorem add_l1s (a b : List Int) : l1 (addL a b) ≤ (addL a b).length * (l1 a + l1 b) := l1_le fun z hz => add_l1 hz
theorem PCh.last {f : Int → Int} : ∀ {ch : List (Int × Int)} {a : Int}, PCh f a ch none → ∃ n s, ((a, sgn (f a)) :: ch).getLast? = some (n, s) ∧ a ≤ n ∧ (∀ m, n ≤ m → sgn (f m) = s) ∧ (n = a ∨ (a < n ∧ sgn (f (n - 1)) ≠ s))
  | [], a, h => ⟨a, sgn (f a), rfl, Int.le_refl _, fun m hm => h m hm (fun b hb => nomatch hb), .inl rfl⟩
  | (b, t) :: r, a, h => by
    obtain ⟨x1, x2, x3, x4, x5, x6⟩ := h
    subst x4
    obtain ⟨n, s, g1, g2, g3, g4⟩ := PCh.last x6
    refine ⟨n, s, by rw [List.getLast?_cons_cons]; exact g1, by omega, g3, .inr ?_⟩
    rcases g4 with e | ⟨e1, e2⟩
    · subst e
      refine ⟨x1, ?_⟩
      rw [x3 (n - 1) (by omega) (by omega)]
      have := g3 n (Int.le_refl _)
      rw [← this]
      exact fun z => x5 z.symm
    · exact ⟨by omega, e2⟩
theorem atI_last {α : Type} {xs : List α} {v : α} (h : xs.getLast? = some v) : atI xs (-1) = some v := by
  have l : 0 < xs.length := by
    cases xs with
    | nil => cases h
    | cons _ _ => exact Nat.succ_pos _
  rw [List.getLast?_eq_getElem?] at h
  unfold atI ixN
  rw [if_neg (by decide), if_pos (by omega)]
  show xs[((-1 : Int) + (xs.length : Int)).toNat]? = some v
  rw [show ((-1 : Int) + (xs.length : Int)).toNat = xs.length - 1 by omega]
  exact h
theorem But.tapT {K : PySem.W.Frag} {H H' : Hp} {t a q : Addr} {xs : List V} (b : But t H H') (T : Tape H t a) (h : SqT K H q xs) : SqT K H' q xs := by
  obtain ⟨_, _, _, _, _, _, _, _, _, hh⟩ := T
  rcases h with (h | ⟨o, h⟩) | h
  · exact .inl (.inl (b _ _ (fun z => by rw [z, hh] at h; cases h) h))
  · exact .inl (.inr ⟨o, b _ _ (fun z => by rw [z, hh] at h; cases h) h⟩)
  · exact .inr h
end Tq
open PySem PySem.Spec PyProof.Rows L2 Tq
local macro_rules | `(tactic| walk_at "look") => `(tactic| first | assumption | exact upd_same | (rw [upd_ne (by first | assumption | (apply Ne.symm; assumption))]; walk_at "look"))
local macro_rules | `(tactic| walk_at "s") => `(tactic| first
  | with_reducible refine' l_seq ?_
  | with_reducible refine' l_next ?_
  | with_reducible refine' l_asg ?_
  | with_reducible refine' l_gname ?_
  | with_reducible refine' l_gsub ?_
  | with_reducible refine' l_c ?_
  | ((with_reducible refine' l_var ?k1 ?_); (case k1 => exact rfl))
  | with_reducible refine' l_op ?_
  | with_reducible refine' l_cb ?_
  | with_reducible refine' l_nil ?_
  | with_reducible refine' l_cons ?_
  | with_reducible refine' l_call ?_
  | with_reducible refine' l_callN ?_
  | with_reducible refine' l_callD ?_
  | with_reducible refine' l_andV ?_
  | with_reducible refine' l_orT ?_
  | with_reducible refine' l_isN ?_
  | with_reducible refine' l_notN ?_
  | with_reducible refine' l_dnew ?_
  | with_reducible refine' l_orV ?_
  | with_reducible refine' l_notV ?_
  | with_reducible refine' l_jsN ?_
  | with_reducible refine' l_jsC ?_
  | with_reducible refine' l_fmtS ?_
  | with_reducible refine' l_rng2 ?_
  | with_reducible refine' l_ifs ?_
  | with_reducible refine' l_test ?_
  | with_reducible refine' l_b ?_
  | with_reducible refine' l_bl ?_
  | with_reducible refine' l_not ?_
  | with_reducible refine' l_or ?_
  | with_reducible refine' l_and ?_
  | with_reducible refine' l_ret ?_
  | with_reducible refine' l_drop ?_
  | with_reducible refine' l_lst ?_
  | with_reducible refine' l_lc ?_
  | with_reducible refine' l_for ?_
  | with_reducible refine' l_rng1 ?_
  | with_reducible refine' l_ilist ?_
  | with_reducible refine' l_itup ?_
  | with_reducible refine' l_yes ?_
  | ((with_reducible refine' And.intro (l_tyL ?k1) ?_); (case k1 => exact sqL (by walk_at "look")))
  | ((with_reducible refine' l_aug ?k1 ?_); (case k1 => exact rfl))
  | with_reducible refine' l_augS ?_
  | with_reducible refine' l_subB ?_
  | with_reducible refine' l_par ?_
  | with_reducible refine' l_intB ?_
  | ((with_reducible refine' l_mulX ?k1 ?_); (case k1 => assumption))
  | with_reducible refine' l_dc ?_
  | with_reducible refine' l_nd0 ?_
  | ((with_reducible refine' l_ixN ?k1 ?k2 ?k3 ?k4 ?_); (case k1 => exact sqL (by walk_at "look")); (case k2 => omega); (case k3 => omega); (case k4 => assumption))
  | with_reducible refine' l_enT ?_
  | with_reducible refine' l_revT ?_
  | with_reducible refine' l_isII ?_
  | with_reducible refine' l_isIB ?_
  | with_reducible refine' l_ipI ?_
  | with_reducible refine' l_ifE ?_
  | with_reducible refine' l_un ?_
  | with_reducible refine' l_neg ?_
  | with_reducible refine' l_sl0 ?_
  | with_reducible refine' l_np ?_
  | with_reducible refine' l_tup ?_
  | with_reducible refine' l_bm ?_
  | with_reducible refine' l_add ?_
  | with_reducible refine' l_sub ?_
  | with_reducible refine' l_lt ?_
  | with_reducible refine' l_le ?_
  | with_reducible refine' l_gt ?_
  | with_reducible refine' l_ge ?_
  | with_reducible refine' l_eqI ?_
  | with_reducible refine' l_neI ?_
  | with_reducible refine' l_int ?_
  | with_reducible refine' l_abs ?_
  | with_reducible refine' l_max ?_
  | with_reducible refine' l_min ?_
  | ((with_reducible refine' l_mod ?k1 ?_); (case k1 => first | decide | omega))
  | ((with_reducible refine' l_div ?k1 ?_); (case k1 => exact ⟨by omega, by omega⟩))
  | ((with_reducible refine' l_mul ?k1 ?_); (case k1 => first | assumption | exact Or.inr ⟨by decide, by decide⟩ | exact Or.inl ⟨by omega, by omega⟩))
  | ((with_reducible refine' l_pow ?k1 ?_); (case k1 => exact ⟨by decide, by decide, by decide⟩))
  | ((with_reducible refine' l_ixL ?k1 ?k2 ?_); (case k1 => exact sqL (by walk_at "look")); (case k2 => first | exact rfl | assumption))
  | ((with_reducible refine' l_setL ?k1 ?k2 ?_); (case k1 => walk_at "look"); (case k2 => first | exact rfl | assumption))
  | ((with_reducible refine' l_lenL ?k1 ?_); (case k1 => exact sqL (by walk_at "look")))
  | ((with_reducible refine' l_ixS ?k1 ?k2 ?_); (case k1 => first | assumption | decide); (case k2 => first | assumption | exact rfl))
  | ((with_reducible refine' l_mulS ?k1 ?_); (case k1 => first | assumption | exact ⟨by show 1 ≤ 1000; decide, by omega, by omega⟩))
  | ((with_reducible refine' l_addS ?k1 ?_); (case k1 => first | assumption | (first | decide | omega)))
  | ((with_reducible refine' l_isTT ?k1 ?_); (case k1 => first | assumption | exact sqT (by walk_at "look")))
  | with_reducible refine' l_isSS ?_
  | ((with_reducible refine' l_isTS ?k1 ?_); (case k1 => first | assumption | exact sqT (by walk_at "look")))
  | with_reducible refine' l_isNS ?_
  | ((with_reducible refine' l_app ?k1 ?k2 ?_); (case k1 => walk_at "look"); (case k2 => assumption))
  | ((with_reducible refine' l_ixT ?k1 ?k2 ?_); (case k1 => first | assumption | exact sqT (by walk_at "look")); (case k2 => first | assumption | exact rfl))
  | ((with_reducible refine' l_lenT ?k1 ?_); (case k1 => first | assumption | exact sqT (by walk_at "look")))
  | with_reducible refine' l_ltS ?_
  | with_reducible refine' l_leS ?_
  | with_reducible refine' l_eqS ?_
  | with_reducible refine' l_neS ?_
  | with_reducible refine' l_ifNT ?_
  | with_reducible refine' l_ifNF ?_
  | with_reducible refine' l_ifT ?_
  | with_reducible refine' l_ifF ?_)
local macro_rules | `(tactic| walk_at "go") => `(tactic| repeat walk_at "s")
local macro_rules | `(tactic| walk_at "m1") => `(tactic| ((conv => whnf); refine' And.intro (by first | exact rfl | exact Nat.zero_le _ | exact Mx.sz1 | exact Mx.sz2 | exact Mx.sz3 | exact Mx.sz4 | exact Mx.sz5 | exact Mx.sz6 | assumption | decide | (show (_ : Int) ≠ 0; decide) | exact ⟨by decide, by decide⟩) ?_))
local macro_rules | `(tactic| walk_at "m") => `(tactic| ((repeat walk_at "m1"); (try conv => whnf)))
local macro_rules | `(tactic| walk_at "no") => `(tactic| (walk_at "m"; refine Mx.cndF rfl ?_; walk_at "m"; assumption))
local macro_rules | `(tactic| walk_at "k1") => `(tactic| first | walk_at "m1" | ((conv => whnf); refine Mx.cndF (by decide +kernel) ?_) | ((conv => whnf); refine Mx.cndT (by decide +kernel) ?_))
local macro_rules | `(tactic| walk_at "k") => `(tactic| ((repeat walk_at "k1"); (try conv => whnf)))
namespace K10
open PySem PySem.Spec PyProof.Rows L2 Tq
def topS (i : Nat) : Stmt := PySem.Challenge.pw_migraproof_k10_cell_of_an_expression.main.body.getD i (.Pass ⟨0, 0, 0, 0⟩)
abbrev s_cell_of : Stmt := topS 1
theorem sc_cell_of : FnScope ["tables", "expression", "record"] ["tables", "expression", "record"] (defScope s_cell_of) := ⟨rfl, rfl, rfl, by decide +kernel, rfl, by decide +kernel, by decide +kernel⟩
abbrev s_rows_by_name : Stmt := topS 2
theorem sc_rows_by_name : FnScope ["tables", "record", "name", "_", "columns", "row"] ["tables", "record"] (defScope s_rows_by_name) := ⟨rfl, rfl, rfl, by decide +kernel, rfl, by decide +kernel, by decide +kernel⟩
abbrev s_cells_by_name : Stmt := topS 3
theorem sc_cells_by_name : FnScope ["columns", "row", "name", "_", "cell"] ["columns", "row"] (defScope s_cells_by_name) := ⟨rfl, rfl, rfl, by decide +kernel, rfl, by decide +kernel, by decide +kernel⟩
abbrev s_is_true : Stmt := topS 4
theorem sc_is_true : FnScope ["condition", "rows", "head", "part"] ["condition", "rows"] (defScope s_is_true) := ⟨rfl, rfl, rfl, by decide +kernel, rfl, by decide +kernel, by decide +kernel⟩
abbrev s_given_cell : Stmt := topS 5
theorem sc_given_cell : FnScope ["expression", "rows", "condition", "branch"] ["expression", "rows"] (defScope s_given_cell) := ⟨rfl, rfl, rfl, by decide +kernel, rfl, by decide +kernel, by decide +kernel⟩
abbrev s_denoted : Stmt := topS 6
theorem sc_denoted : FnScope ["operand", "rows", "row"] ["operand", "rows"] (defScope s_denoted) := ⟨rfl, rfl, rfl, by decide +kernel, rfl, by decide +kernel, by decide +kernel⟩
abbrev s_law_tape : Stmt := topS 8
theorem sc_law_tape : FnScope ["script", "total", "cell"] ["script"] (defScope s_law_tape) := ⟨rfl, rfl, rfl, by decide +kernel, rfl, by decide +kernel, by decide +kernel⟩
abbrev s_law_draw : Stmt := topS 9
theorem sc_law_draw : FnScope ["tape", "many", "place", "number"] ["tape", "many"] (defScope s_law_draw) := ⟨rfl, rfl, rfl, by decide +kernel, rfl, by decide +kernel, by decide +kernel⟩
abbrev s_law_reserved : Stmt := topS 10
theorem sc_law_reserved : FnScope [] [] (defScope s_law_reserved) := ⟨rfl, rfl, rfl, by decide +kernel, rfl, by decide +kernel, by decide +kernel⟩
abbrev s_law_words : Stmt := topS 11
theorem sc_law_words : FnScope ["tape", "many", "taken", "letters", "marks", "shape", "words", "k", "number", "word", "base", "j"] ["tape", "many", "taken"] (defScope s_law_words) := ⟨rfl, rfl, rfl, by decide +kernel, rfl, by decide +kernel, by decide +kernel⟩
abbrev s_law_text : Stmt := topS 12
theorem sc_law_text : FnScope ["tape", "marks", "choice", "number", "length", "place", "first"] ["tape"] (defScope s_law_text) := ⟨rfl, rfl, rfl, by decide +kernel, rfl, by decide +kernel, by decide +kernel⟩
abbrev s_law_texts : Stmt := topS 13
theorem sc_law_texts : FnScope ["tape", "many", "taken", "texts", "k", "text", "j"] ["tape", "many", "taken"] (defScope s_law_texts) := ⟨rfl, rfl, rfl, by decide +kernel, rfl, by decide +kernel, by decide +kernel⟩
abbrev s_law_many : Stmt := topS 14
theorem sc_law_many : FnScope ["tables", "many", "ways", "table", "after", "column", "extra", "longer", "j", "number"] ["tables", "many"] (defScope s_law_many) := ⟨rfl, rfl, rfl, by decide +kernel, rfl, by decide +kernel, by decide +kernel⟩
abbrev s_law_textual : Stmt := topS 15
theorem sc_law_textual : FnScope ["tables", "found", "table", "column"] ["tables"] (defScope s_law_textual) := ⟨rfl, rfl, rfl, by decide +kernel, rfl, by decide +kernel, by decide +kernel⟩
abbrev s_law_tables : Stmt := topS 16
theorem sc_law_tables : FnScope ["tape", "most", "many", "width", "tables", "name", "optional", "columns", "label", "kind", "column", "total", "table"] ["tape", "most", "many", "width"] (defScope s_law_tables) := ⟨rfl, rfl, rfl, by decide +kernel, rfl, by decide +kernel, by decide +kernel⟩
abbrev s_law_value_words : Stmt := topS 17
theorem sc_law_value_words : FnScope ["tables", "words", "table", "column", "some", "word"] ["tables"] (defScope s_law_value_words) := ⟨rfl, rfl, rfl, by decide +kernel, rfl, by decide +kernel, by decide +kernel⟩
abbrev s_law_operand : Stmt := topS 18
theorem sc_law_operand : FnScope ["tape", "tables", "pool", "words", "textual", "fitting", "table", "column", "choice", "pair"] ["tape", "tables", "pool", "words", "textual"] (defScope s_law_operand) := ⟨rfl, rfl, rfl, by decide +kernel, rfl, by decide +kernel, by decide +kernel⟩
abbrev s_law_condition : Stmt := topS 19
theorem sc_law_condition : FnScope ["tape", "tables", "pool", "words", "deep", "choice", "pieces", "many", "k", "textual", "left"] ["tape", "tables", "pool", "words", "deep"] (defScope s_law_condition) := ⟨rfl, rfl, rfl, by decide +kernel, rfl, by decide +kernel, by decide +kernel⟩
abbrev s_law_expression : Stmt := topS 20
theorem sc_law_expression : FnScope ["tape", "tables", "pool", "words", "textual", "deep", "pairs", "k", "condition"] ["tape", "tables", "pool", "words", "textual", "deep"] (defScope s_law_expression) := ⟨rfl, rfl, rfl, by decide +kernel, rfl, by decide +kernel, by decide +kernel⟩
abbrev s_law_shape : Stmt := topS 21
theorem sc_law_shape : FnScope ["tape", "tables", "texts", "rows", "table", "cells", "column", "kind", "word"] ["tape", "tables", "texts"] (defScope s_law_shape) := ⟨rfl, rfl, rfl, by decide +kernel, rfl, by decide +kernel, by decide +kernel⟩
abbrev s_law_cell : Stmt := topS 22
theorem sc_law_cell : FnScope ["tables", "operand", "record", "k", "j"] ["tables", "operand", "record"] (defScope s_law_cell) := ⟨rfl, rfl, rfl, by decide +kernel, rfl, by decide +kernel, by decide +kernel⟩
abbrev s_law_holds : Stmt := topS 23
theorem sc_law_holds : FnScope ["tables", "condition", "record", "k", "same", "part"] ["tables", "condition", "record"] (defScope s_law_holds) := ⟨rfl, rfl, rfl, by decide +kernel, rfl, by decide +kernel, by decide +kernel⟩
abbrev s_law_given : Stmt := topS 24
theorem sc_law_given : FnScope ["tables", "expression", "record", "pair"] ["tables", "expression", "record"] (defScope s_law_given) := ⟨rfl, rfl, rfl, by decide +kernel, rfl, by decide +kernel, by decide +kernel⟩
abbrev s_law_large : Stmt := topS 25
theorem sc_law_large : FnScope ["tape", "widest", "names", "left", "tables", "k", "many", "columns", "label", "choice", "kind", "j"] ["tape", "widest"] (defScope s_law_large) := ⟨rfl, rfl, rfl, by decide +kernel, rfl, by decide +kernel, by decide +kernel⟩
abbrev s_law_any_tables : Stmt := topS 26
theorem sc_law_any_tables : FnScope ["tape", "widest"] ["tape", "widest"] (defScope s_law_any_tables) := ⟨rfl, rfl, rfl, by decide +kernel, rfl, by decide +kernel, by decide +kernel⟩
abbrev s_law_deeper : Stmt := topS 27
theorem sc_law_deeper : FnScope ["tape", "expression", "others", "many", "k", "other", "choice"] ["tape", "expression", "others", "many"] (defScope s_law_deeper) := ⟨rfl, rfl, rfl, by decide +kernel, rfl, by decide +kernel, by decide +kernel⟩
abbrev s_law : Stmt := topS 28
theorem sc_law : FnScope ["script", "tape", "pool", "tables", "textual", "deep", "words", "expression", "others", "k", "inner", "record", "due", "told", "again"] ["script"] (defScope s_law) := ⟨rfl, rfl, rfl, by decide +kernel, rfl, by decide +kernel, by decide +kernel⟩
structure Txt (mg : Str → Option Value) : Prop where
  b_abs : mg "abs" = none
  b_all : mg "all" = none
  b_any : mg "any" = none
  b_int : mg "int" = none
  b_len : mg "len" = none
  b_list : mg "list" = none
  b_max : mg "max" = none
  b_min : mg "min" = none
  b_range : mg "range" = none
  b_str : mg "str" = none
  b_sum : mg "sum" = none
  b_tuple : mg "tuple" = none
  b_zip : mg "zip" = none
structure Ds [Mx.Tb] (K : PySem.W.Frag) (mg : Str → Option Value) where
  cell_of : Df K mg "cell_of" s_cell_of ["tables", "expression", "record"]
  rows_by_name : Df K mg "rows_by_name" s_rows_by_name ["tables", "record"]
  cells_by_name : Df K mg "cells_by_name" s_cells_by_name ["columns", "row"]
  is_true : Df K mg "is_true" s_is_true ["condition", "rows"]
  given_cell : Df K mg "given_cell" s_given_cell ["expression", "rows"]
  denoted : Df K mg "denoted" s_denoted ["operand", "rows"]
  law_tape : Df K mg "_law_tape" s_law_tape ["script"]
  law_draw : Df K mg "_law_draw" s_law_draw ["tape", "many"]
  law_reserved : Df K mg "_law_reserved" s_law_reserved []
  law_words : Df K mg "_law_words" s_law_words ["tape", "many", "taken"]
  law_text : Df K mg "_law_text" s_law_text ["tape"]
  law_texts : Df K mg "_law_texts" s_law_texts ["tape", "many", "taken"]
  law_many : Df K mg "_law_many" s_law_many ["tables", "many"]
  law_textual : Df K mg "_law_textual" s_law_textual ["tables"]
  law_tables : Df K mg "_law_tables" s_law_tables ["tape", "most", "many", "width"]
  law_value_words : Df K mg "_law_value_words" s_law_value_words ["tables"]
  law_operand : Df K mg "_law_operand" s_law_operand ["tape", "tables", "pool", "words", "textual"]
  law_condition : Df K mg "_law_condition" s_law_condition ["tape", "tables", "pool", "words", "deep"]
  law_expression : Df K mg "_law_expression" s_law_expression ["tape", "tables", "pool", "words", "textual", "deep"]
  law_shape : Df K mg "_law_shape" s_law_shape ["tape", "tables", "texts"]
  law_cell : Df K mg "_law_cell" s_law_cell ["tables", "operand", "record"]
  law_holds : Df K mg "_law_holds" s_law_holds ["tables", "condition", "record"]
  law_given : Df K mg "_law_given" s_law_given ["tables", "expression", "record"]
  law_large : Df K mg "_law_large" s_law_large ["tape", "widest"]
  law_any_tables : Df K mg "_law_any_tables" s_law_any_tables ["tape", "widest"]
  law_deeper : Df K mg "_law_deeper" s_law_deeper ["tape", "expression", "others", "many"]
  law : Df K mg "law" s_law ["script"]
  g_is_true : Mx.Gd K is_true.fd
end K10
namespace K10
open PySem PySem.Spec PyProof.Rows L2 Tq
open Mx
section
variable {P : Program} {w : World} {K : PySem.W.Frag} {mg : Str → Option Value} {base : Heap} [Mx.Tb] [Mx.Bs base mg]

theorem ok_cells_by_name (D : Ds K mg) (T : Txt mg) : FnOk P w K mg base CX0 1 D.cells_by_name.f D.cells_by_name.fd ["columns", "row"] (spM w K 2 (fCells)) := by
  have sc := sc_cells_by_name
  refine D.cells_by_name.F.ok sc (fun vs H Q E h => h.1) (fun cdv A outer s H vs Q E hr h => ?_)
  refine ⟨_, (pss_cons (ps_if (pt_cmpR o_isN (pv 1) pe_non (nomark _)) (pss_one (ps_ret pe_non)) pss_nil)
    (pss_one (Mx.ps_retFK (pe_dc (own := [("cell", 4), ("name", 2), ("_", 3), ("_", 3)]) rfl sc.nd (k_zipA (K := K) rfl (by rfl) T.b_zip (pa_cons (pv 0) (pa_cons (pv 1) pa_nil))) (blkOk_by (N := ["columns", "row", "name", "_", "cell"]) (sc := defScope s_cells_by_name) (by decide +kernel)) (fun _ _ _ _ _ => (Mx.k_tup (K := K) (n := 2) rfl rfl (pgs_cons (Mx.k_tup (K := K) (n := 3) rfl rfl (pgs_cons (pg_name (i := 2) sc.nd rfl (Or.inl rfl)) (pgs_cons (pg_name (i := 3) sc.nd rfl (Or.inl rfl)) (pgs_cons (pg_name (i := 3) sc.nd rfl (Or.inl rfl)) pgs_nil)))) (pgs_cons (pg_name (i := 4) sc.nd rfl (Or.inl rfl)) pgs_nil)))) (fun _ _ _ _ _ => pts_nil) (fun _ _ _ _ _ => (pv 2)) (fun _ _ _ _ _ => (pv 4)))))), ?_⟩
  refine' body_m h ?ds (by decide) ?hm
  case ds => exact (ds_seq (ds_ifs (dt_test (de_op dr_isN (de_var 1) de_non)) (ds_ret de_non) ds_next)
    (ds_retDcK (di_zip (da_cons (de_var 0) (da_cons (de_var 1) da_nil))) (dg_tup (dgs_cons (dg_tup (dgs_cons dg_name (dgs_cons dg_name (dgs_cons dg_name dgs_nil)))) (dgs_cons dg_name dgs_nil))) dt_yes (de_var 2) (de_var 4) (by decide)))
  case hm =>
    clear h hr
    intro dvs Qm hF
    obtain ⟨Cs, r, rfl, nd, few, hq⟩ := hF
    try simp only [List.map_cons, List.map_nil, List.cons_append, List.nil_append, List.length_cons, List.length_nil, Nat.reduceAdd, Nat.reduceSub, List.replicate_succ, List.replicate_zero]
    cases r with
    | none =>
      walk_at "m"
      refine cndT rfl ?_
      walk_at "m"
      exact hq
    | some cs =>
      walk_at "m"
      refine cndF rfl ?_
      walk_at "m"
      rw [zipD]
      refine retDc (fun p => p.1.name) (fun p => p.2.d) (by rw [List.length_zip]; omega) (nd.sublist zip_sub) (fun x hx A N P a hP => ?_) hq
      walk_at "m"
      refine cndT rfl ?_
      walk_at "m"
      exact ⟨_, rfl, a, hP⟩
end
end K10
namespace K10
open PySem PySem.Spec PyProof.Rows L2 Tq
open Mx
section
variable {P : Program} {w : World} {K : PySem.W.Frag} {mg : Str → Option Value} {base : Heap} [Mx.Tb] [Mx.Bs base mg]

theorem ok_rows_by_name (D : Ds K mg) (T : Txt mg) : FnOk P w K mg base CX0 2 D.rows_by_name.f D.rows_by_name.fd ["tables", "record"] (spM w K 2 (fRows)) := by
  have sc := sc_rows_by_name
  refine D.rows_by_name.F.ok sc (fun vs H Q E h => h.1) (fun cdv A outer s H vs Q E hr h => ?_)
  refine ⟨_, (pss_one (Mx.ps_retFR (pe_dc (own := [("row", 5), ("name", 2), ("_", 3), ("columns", 4)]) rfl sc.nd (k_zipA (K := K) rfl (by rfl) T.b_zip (pa_cons (pv 0) (pa_cons (pv 1) pa_nil))) (blkOk_by (N := ["tables", "record", "name", "_", "columns", "row"]) (sc := defScope s_rows_by_name) (by decide +kernel)) (fun _ _ _ _ _ => (Mx.k_tup (K := K) (n := 2) rfl rfl (pgs_cons (Mx.k_tup (K := K) (n := 3) rfl rfl (pgs_cons (pg_name (i := 2) sc.nd rfl (Or.inl rfl)) (pgs_cons (pg_name (i := 3) sc.nd rfl (Or.inl rfl)) (pgs_cons (pg_name (i := 4) sc.nd rfl (Or.inl rfl)) pgs_nil)))) (pgs_cons (pg_name (i := 5) sc.nd rfl (Or.inl rfl)) pgs_nil)))) (fun _ _ _ _ _ => pts_nil) (fun _ _ _ _ _ => (pv 2)) (fun _ _ _ _ _ => (pe_call (ok_cells_by_name (w := w) (base := base) D T) hr (by rfl) D.cells_by_name.g D.cells_by_name.F.kp D.cells_by_name.b .nil pass0 (pa_cons (pv 4) (pa_cons (pv 5) pa_nil))))))), ?_⟩
  refine' body_m h ?ds (by decide) ?hm
  case ds => exact (ds_retDcR (di_zip (da_cons (de_var 0) (da_cons (de_var 1) da_nil))) (dg_tup (dgs_cons (dg_tup (dgs_cons dg_name (dgs_cons dg_name (dgs_cons dg_name dgs_nil)))) (dgs_cons dg_name dgs_nil))) dt_yes (de_var 2) (de_call (da_cons (de_var 4) (da_cons (de_var 5) da_nil))) (by decide))
  case hm =>
    clear h hr
    intro dvs Qm hF
    obtain ⟨Ts, R, rfl, fm, nn, nc, hq⟩ := hF
    try simp only [List.map_cons, List.map_nil, List.cons_append, List.nil_append, List.length_cons, List.length_nil, Nat.reduceAdd, Nat.reduceSub, List.replicate_succ, List.replicate_zero]
    have few := fm.few
    walk_at "m"
    rw [zipD]
    refine retDc (fun p => p.1.name) (fun p => p.2.map (cellsK p.1.cols)) (by rw [List.length_zip]; omega) (nn.sublist zip_sub) (fun x hx A N P a hP => ?_) hq
    walk_at "m"
    refine cndT rfl ?_
    obtain ⟨T, r⟩ := x
    have hP : P (.inr T.name) (r.map (cellsK T.cols)) := hP
    have mT : T ∈ Ts := (List.of_mem_zip hx).1
    walk_at "m"
    refine ⟨T.cols, r, rfl, nc T mT, fm.cfew T mT, ?_⟩
    cases r with
    | none =>
      walk_at "m"
      exact ⟨_, rfl, a, hP⟩
    | some cs =>
      walk_at "m"
      exact ⟨_, rfl, a, hP⟩
end
end K10
namespace K10
open PySem PySem.Spec PyProof.Rows L2 Tq
open Mx
section
variable {P : Program} {w : World} {K : PySem.W.Frag} {mg : Str → Option Value} {base : Heap} [Mx.Tb] [Mx.Bs base mg]

theorem ok_denoted (D : Ds K mg) (T : Txt mg) : FnOk P w K mg base CX0 1 D.denoted.f D.denoted.fd ["operand", "rows"] (spM w K 2 (fDenoted)) := by
  have sc := sc_denoted
  refine D.denoted.F.ok sc (fun vs H Q E h => h.1) (fun cdv A outer s H vs Q E hr h => ?_)
  refine ⟨_, (pss_cons (ps_if (pt_cmpR op_eq (pe_ix (k_ixT (K := K) rfl) (pv 0) pe_int (fun _ _ => rfl)) pe_str (nomark _)) (pss_one (ps_ret (pe_ix (k_ixT (K := K) rfl) (pv 0) pe_int (fun _ _ => rfl)))) pss_nil)
    (pss_cons (ps_set (i := 2) sc.nd rfl (Or.inl rfl) (pe_dget (hu_of hr) (pv 1) (pe_ix (k_ixT (K := K) rfl) (pv 0) pe_int (fun _ _ => rfl)) (fun _ _ => rfl)))
    (pss_cons (ps_if (pt_cmpR o_isN (pv 2) pe_non (nomark _)) (pss_one (ps_ret pe_non)) pss_nil)
    (pss_one (ps_ret (pe_dget (hu_of hr) (pv 2) (pe_ix (k_ixT (K := K) rfl) (pv 0) pe_int (fun _ _ => rfl)) (fun _ _ => rfl))))))), ?_⟩
  refine' body_m h ?ds (by decide) ?hm
  case ds => exact (ds_seq (ds_ifs (dt_test (de_op dr_eqS (de_op dr_ixT (de_var 0) de_int) (de_str (by decide +kernel)))) (ds_ret (de_op dr_ixT (de_var 0) de_int)) ds_next)
    (ds_seq (ds_set (de_dget (de_var 1) (de_op dr_ixT (de_var 0) de_int)))
    (ds_seq (ds_ifs (dt_test (de_op dr_isN (de_var 2) de_non)) (ds_ret de_non) ds_next)
    (ds_ret (de_dget (de_var 2) (de_op dr_ixT (de_var 0) de_int))))))
  case hm =>
    clear h hr
    intro dvs Qm hF
    obtain ⟨Ts, R, o, rfl, fm, nn, oa, hq⟩ := hF
    try simp only [List.map_cons, List.map_nil, List.cons_append, List.nil_append, List.length_cons, List.length_nil, Nat.reduceAdd, Nat.reduceSub, List.replicate_succ, List.replicate_zero]
    cases o with
    | cell c =>
      walk_at "k"
      exact hq
    | col t c =>
      obtain ⟨r, e1, e2⟩ := at_look fm nn oa
      have hq : Qm (.d (lookT Ts R t c).d) := hq
      walk_at "k"
      rw [e1]
      cases r with
      | none =>
        rw [e2] at hq
        walk_at "k"
        exact hq
      | some kvs =>
        walk_at "k"
        rw [e2]
        walk_at "k"
        exact hq
end
end K10
namespace K10
open PySem PySem.Spec PyProof.Rows L2 Tq
open Mx
section
variable {P : Program} {w : World} {K : PySem.W.Frag} {mg : Str → Option Value} {base : Heap} [Mx.Tb] [Mx.Bs base mg]

theorem ok_is_true (D : Ds K mg) (T : Txt mg) : ∀ d : Nat, FnOk P w K mg base CX0 (2 * d + 2) D.is_true.f D.is_true.fd ["condition", "rows"] (spM w K 2 (fIsTrue d))
  | 0 => (D.is_true.F.ok sc_is_true (k := 0) (fun vs H Q E h => h.1) (fun cdv A outer s H vs Q E hr h => (no_m h (fun _ _ z => z)).elim)).mono (by omega)
  | d + 1 => by
    have ih := ok_is_true D T d
    refine FnOk.mono (j := 2 * d + 3 + 1) ?_ (by omega)
    have sc := sc_is_true
    obtain ⟨gc, gP, gcode, ghd, gmem⟩ := D.g_is_true
    have gbs := Mx.Bs.b (base := base) (mg := mg) gP gmem
    refine fun_okC D.is_true.F sc (fun vs H Q E h => h.1) (fun A outer s H vs Q E hr h => ?_)
    refine ⟨_, (pss_cons (ps_set (i := 2) sc.nd rfl (Or.inl rfl) (pe_ix (k_ixT (K := K) rfl) (pv 0) pe_int (fun _ _ => rfl)))
    (pss_cons (ps_if (pt_cmpR op_eq (pv 2) pe_str (nomark _)) (pss_one (ps_ret (pe_cmpR o_notN (pe_dget (hu_of hr) (pv 1) (pe_ix (k_ixT (K := K) rfl) (pv 0) pe_int (fun _ _ => rfl)) (fun _ _ => rfl)) pe_non (nomark _)))) pss_nil)
    (pss_cons (ps_if (pt_cmpR op_eq (pv 2) pe_str (nomark _)) (pss_one (ps_ret (pe_cmpR (k_eqD (K := K) rfl hr.units) (pe_call (ok_denoted (w := w) (base := base) D T) (hr.mono (by omega)) (by rfl) D.denoted.g D.denoted.F.kp D.denoted.b .nil pass0 (pa_cons (pe_ix (k_ixT (K := K) rfl) (pv 0) pe_int (fun _ _ => rfl)) (pa_cons (pv 1) pa_nil))) (pe_call (ok_denoted (w := w) (base := base) D T) (hr.mono (by omega)) (by rfl) D.denoted.g D.denoted.F.kp D.denoted.b .nil pass0 (pa_cons (pe_ix (k_ixT (K := K) rfl) (pv 0) pe_int (fun _ _ => rfl)) (pa_cons (pv 1) pa_nil))) (nomark _)))) pss_nil)
    (pss_cons (ps_if (pt_cmpR op_eq (pv 2) pe_str (nomark _)) (pss_one (ps_ret (pe_cmpR (k_neD (K := K) rfl hr.units) (pe_call (ok_denoted (w := w) (base := base) D T) (hr.mono (by omega)) (by rfl) D.denoted.g D.denoted.F.kp D.denoted.b .nil pass0 (pa_cons (pe_ix (k_ixT (K := K) rfl) (pv 0) pe_int (fun _ _ => rfl)) (pa_cons (pv 1) pa_nil))) (pe_call (ok_denoted (w := w) (base := base) D T) (hr.mono (by omega)) (by rfl) D.denoted.g D.denoted.F.kp D.denoted.b .nil pass0 (pa_cons (pe_ix (k_ixT (K := K) rfl) (pv 0) pe_int (fun _ _ => rfl)) (pa_cons (pv 1) pa_nil))) (nomark _)))) pss_nil)
    (pss_cons (ps_if (pt_cmpR op_eq (pv 2) pe_str (nomark _)) (pss_one (ps_ret (pe_not (pe_call ih (hr.mono (by omega)) (by rfl) D.is_true.g D.is_true.F.kp D.is_true.b .nil pass0 (pa_cons (pe_ix (k_ixT (K := K) rfl) (pv 0) pe_int (fun _ _ => rfl)) (pa_cons (pv 1) pa_nil)))))) pss_nil)
    (pss_cons (ps_if (pt_cmpR op_eq (pv 2) pe_str (nomark _)) (pss_one (ps_ret (Gx.pe_allG (own := [("part", 3)]) (k := 2 * d + 2) hr (by omega) (by rfl) T.b_all (by decide +kernel) rfl ghd gbs gcode ⟨rfl, rfl, by decide +kernel, rfl⟩ sc.nd (k_piT (K := K) rfl (pe_ix (k_ixT (K := K) rfl) (pv 0) pe_int (fun _ _ => rfl))) (blkOk_by (N := ["condition", "rows", "head", "part"]) (sc := defScope s_is_true) (by decide +kernel)) (fun _ _ _ _ _ _ _ => (pg_name (i := 3) sc.nd rfl (Or.inl rfl))) (fun _ _ _ _ _ _ _ hr => (pe_call ih (hr.mono (by omega)) (by rfl) D.is_true.g D.is_true.F.kp D.is_true.b .nil pass0 (pa_cons (pv 3) (pa_cons (pv 1) pa_nil))))))) pss_nil)
    (pss_cons (ps_if (pt_cmpR op_eq (pv 2) pe_str (nomark _)) (pss_one (ps_ret (Gx.pe_anyG (own := [("part", 3)]) (k := 2 * d + 2) hr (by omega) (by rfl) T.b_any (by decide +kernel) rfl ghd gbs gcode ⟨rfl, rfl, by decide +kernel, rfl⟩ sc.nd (k_piT (K := K) rfl (pe_ix (k_ixT (K := K) rfl) (pv 0) pe_int (fun _ _ => rfl))) (blkOk_by (N := ["condition", "rows", "head", "part"]) (sc := defScope s_is_true) (by decide +kernel)) (fun _ _ _ _ _ _ _ => (pg_name (i := 3) sc.nd rfl (Or.inl rfl))) (fun _ _ _ _ _ _ _ hr => (pe_call ih (hr.mono (by omega)) (by rfl) D.is_true.g D.is_true.F.kp D.is_true.b .nil pass0 (pa_cons (pv 3) (pa_cons (pv 1) pa_nil))))))) pss_nil)
    (pss_one (ps_ret (pe_cmpR op_eq (pv 2) pe_str (nomark _))))))))))), ?_⟩
    refine' body_m h ?ds (by decide) ?hm
    case ds => exact (ds_seq (ds_set (de_op dr_ixT (de_var 0) de_int))
    (ds_seq (ds_ifs (dt_test (de_op dr_eqS (de_var 2) (de_str (by decide +kernel)))) (ds_ret (de_op dr_notN (de_dget (de_var 1) (de_op dr_ixT (de_var 0) de_int)) de_non)) ds_next)
    (ds_seq (ds_ifs (dt_test (de_op dr_eqS (de_var 2) (de_str (by decide +kernel)))) (ds_ret (de_op dr_eqD (de_call (da_cons (de_op dr_ixT (de_var 0) de_int) (da_cons (de_var 1) da_nil))) (de_call (da_cons (de_op dr_ixT (de_var 0) de_int) (da_cons (de_var 1) da_nil))))) ds_next)
    (ds_seq (ds_ifs (dt_test (de_op dr_eqS (de_var 2) (de_str (by decide +kernel)))) (ds_ret (de_op dr_neD (de_call (da_cons (de_op dr_ixT (de_var 0) de_int) (da_cons (de_var 1) da_nil))) (de_call (da_cons (de_op dr_ixT (de_var 0) de_int) (da_cons (de_var 1) da_nil))))) ds_next)
    (ds_seq (ds_ifs (dt_test (de_op dr_eqS (de_var 2) (de_str (by decide +kernel)))) (ds_ret (de_notV (de_call (da_cons (de_op dr_ixT (de_var 0) de_int) (da_cons (de_var 1) da_nil))))) ds_next)
    (ds_seq (ds_ifs (dt_test (de_op dr_eqS (de_var 2) (de_str (by decide +kernel)))) (ds_ret (de_gen gmem (di_eT (de_op dr_ixT (de_var 0) de_int)) dg_name (de_call (da_cons (de_var 3) (da_cons (de_var 1) da_nil))) (by decide))) ds_next)
    (ds_seq (ds_ifs (dt_test (de_op dr_eqS (de_var 2) (de_str (by decide +kernel)))) (ds_ret (de_gen gmem (di_eT (de_op dr_ixT (de_var 0) de_int)) dg_name (de_call (da_cons (de_var 3) (da_cons (de_var 1) da_nil))) (by decide))) ds_next)
    (ds_ret (de_op dr_eqS (de_var 2) (de_str (by decide +kernel)))))))))))
    case hm =>
      clear h hr
      intro dvs Qm hF
      obtain ⟨Ts, pl, tr, R, rfl, fm, nn, ok, cn, dep, hq⟩ := hF
      try simp only [List.map_cons, List.map_nil, List.cons_append, List.nil_append, List.length_cons, List.length_nil, Nat.reduceAdd, Nat.reduceSub, List.replicate_succ, List.replicate_zero]
      cases tr with
      | tru =>
        walk_at "k"
        exact hq
      | fls =>
        walk_at "k"
        exact hq
      | ex t =>
        obtain ⟨i, T, r, _, _, _, e1, e2, _⟩ := rows_look (R := R) fm.len (t := t) cn
        have hq : Qm (.d (.bool (hasRow Ts R t))) := hq
        rw [e2] at hq
        walk_at "k"
        rw [e1]
        cases r with
        | none =>
          walk_at "k"
          exact hq
        | some cs =>
          walk_at "k"
          exact hq
      | cmp e l r =>
        obtain ⟨tx, ws, c1, c2⟩ := cn
        have hq : Qm (.d (.bool (celEq (l.ev Ts R) (r.ev Ts R) == e))) := hq
        rw [← celEq_eqv] at hq
        cases e <;>
        · walk_at "k"
          refine ⟨Ts, R, l, rfl, fm, nn, in_at c1, ?_⟩
          walk_at "k"
          refine ⟨Ts, R, r, rfl, fm, nn, in_at c2, ?_⟩
          walk_at "k"
          refine ⟨Nat.le_trans (cel_depth _) (by decide), Nat.le_trans (cel_depth _) (by decide), ?_⟩
          walk_at "k"
          generalize PyData.eqv _ _ = b at hq ⊢
          cases b <;> exact hq
      | neg a =>
        have d2 : a.dep + 1 ≤ d := dep
        obtain ⟨j, rfl⟩ : ∃ j, d = j + 1 := ⟨d - 1, by omega⟩
        walk_at "k"
        refine ⟨Ts, pl, a, R, rfl, fm, nn, ok, cn, by omega, ?_⟩
        walk_at "k"
        exact hq
      | jn c ps =>
        have d2 : trsDep ps + 1 ≤ d := dep
        obtain ⟨j, rfl⟩ : ∃ j, d = j + 1 := ⟨d - 1, by omega⟩
        have cn2 := trsCn_iff.mp cn.2
        have ok2 := (trsOk_iff ps).mp ok.2
        cases c with
        | true =>
          have hq : Qm (.d (.bool (trsAll Ts R ps))) := hq
          rw [← trsAll_all] at hq
          walk_at "k"
          rw [trsD_map]
          refine gen_f (b := false) (l := ps) (f := Tr.d) (fun p => p.ev Ts R) (fun p mp A B hA hB => ?_) hq
          walk_at "k"
          refine ⟨Ts, pl, p, R, rfl, fm, nn, ok2 p mp, cn2 p mp, ?_, ?_⟩
          · have := trsDep_le.mp (Nat.le_refl (trsDep ps)) p mp
            omega
          walk_at "k"
          exact gen_end hA hB
        | false =>
          have hq : Qm (.d (.bool (trsAny Ts R ps))) := hq
          rw [← trsAny_any] at hq
          walk_at "k"
          rw [trsD_map]
          refine gen_f (b := true) (l := ps) (f := Tr.d) (fun p => p.ev Ts R) (fun p mp A B hA hB => ?_) hq
          walk_at "k"
          refine ⟨Ts, pl, p, R, rfl, fm, nn, ok2 p mp, cn2 p mp, ?_, ?_⟩
          · have := trsDep_le.mp (Nat.le_refl (trsDep ps)) p mp
            omega
          walk_at "k"
          exact gen_end hA hB
      | op o => exact cn.elim
      | ite ps e => exact cn.elim
end
end K10
namespace K10
open PySem PySem.Spec PyProof.Rows L2 Tq
open Mx
section
variable {P : Program} {w : World} {K : PySem.W.Frag} {mg : Str → Option Value} {base : Heap} [Mx.Tb] [Mx.Bs base mg]

theorem ok_given_cell (D : Ds K mg) (T : Txt mg) : ∀ d : Nat, FnOk P w K mg base CX0 (d + 51) D.given_cell.f D.given_cell.fd ["expression", "rows"] (spM w K 2 (fGiven d))
  | 0 => (D.given_cell.F.ok sc_given_cell (k := 0) (fun vs H Q E h => h.1) (fun cdv A outer s H vs Q E hr h => (no_m h (fun _ _ z => z)).elim)).mono (by omega)
  | d + 1 => by
    have ih := ok_given_cell D T d
    have sc := sc_given_cell
    refine D.given_cell.F.ok sc (fun vs H Q E h => h.1) (fun cdv A outer s H vs Q E hr h => ?_)
    refine ⟨_, (pss_cons (ps_if (pt_cmpR op_ne (pe_ix (k_ixT (K := K) rfl) (pv 0) pe_int (fun _ _ => rfl)) pe_str (nomark _)) (pss_one (ps_ret (pe_call (ok_denoted (w := w) (base := base) D T) (hr.mono (by omega)) (by rfl) D.denoted.g D.denoted.F.kp D.denoted.b .nil pass0 (pa_cons (pv 0) (pa_cons (pv 1) pa_nil))))) pss_nil)
    (pss_cons (ps_for PassesOwn.never rfl (k_piT (K := K) rfl (pe_ix (k_ixT (K := K) rfl) (pv 0) pe_int (fun _ _ => rfl))) (Mx.k_tup (K := K) (n := 2) rfl rfl (pgs_cons (pg_name (i := 2) sc.nd rfl (Or.inl rfl)) (pgs_cons (pg_name (i := 3) sc.nd rfl (Or.inl rfl)) pgs_nil))) (pss_one (ps_if (pt_val (pe_call (ok_is_true (w := w) (base := base) D T 24) (hr.mono (by omega)) (by rfl) D.is_true.g D.is_true.F.kp D.is_true.b .nil pass0 (pa_cons (pv 2) (pa_cons (pv 1) pa_nil)))) (pss_one (ps_ret (pe_call ih (hr.mono (by omega)) (by rfl) D.given_cell.g D.given_cell.F.kp D.given_cell.b .nil pass0 (pa_cons (pv 3) (pa_cons (pv 1) pa_nil))))) pss_nil)))
    (pss_one (ps_ret (pe_call (ok_denoted (w := w) (base := base) D T) (hr.mono (by omega)) (by rfl) D.denoted.g D.denoted.F.kp D.denoted.b .nil pass0 (pa_cons (pe_ix (k_ixT (K := K) rfl) (pv 0) pe_int (fun _ _ => rfl)) (pa_cons (pv 1) pa_nil))))))), ?_⟩
    refine' body_m h ?ds (by decide) ?hm
    case ds => exact (ds_seq (ds_ifs (dt_test (de_op dr_neS (de_op dr_ixT (de_var 0) de_int) (de_str (by decide +kernel)))) (ds_ret (de_call (da_cons (de_var 0) (da_cons (de_var 1) da_nil)))) ds_next)
    (ds_seq (ds_for (di_eT (de_op dr_ixT (de_var 0) de_int)) (dg_tup (dgs_cons dg_name (dgs_cons dg_name dgs_nil))) (ds_ifs (dt_b (de_call (da_cons (de_var 2) (da_cons (de_var 1) da_nil)))) (ds_ret (de_call (da_cons (de_var 3) (da_cons (de_var 1) da_nil)))) ds_next))
    (ds_ret (de_call (da_cons (de_op dr_ixT (de_var 0) de_int) (da_cons (de_var 1) da_nil))))))
    case hm =>
      clear h hr
      intro dvs Qm hF
      obtain ⟨Ts, pl, ws, tx, tr, R, rfl, fm, nn, ok, ex, dep, d23, hq⟩ := hF
      try simp only [List.map_cons, List.map_nil, List.cons_append, List.nil_append, List.length_cons, List.length_nil, Nat.reduceAdd, Nat.reduceSub, List.replicate_succ, List.replicate_zero]
      cases tr with
      | tru => exact ex.elim
      | fls => exact ex.elim
      | ex t => exact ex.elim
      | cmp e l r => exact ex.elim
      | neg a => exact ex.elim
      | jn c ps => exact ex.elim
      | op o =>
        have oi := in_at (o := o) ex
        have hq : Qm (.d (o.ev Ts R).d) := hq
        cases o <;>
        · walk_at "k"
          refine ⟨Ts, R, _, rfl, fm, nn, oi, ?_⟩
          walk_at "k"
          exact hq
      | ite ps e =>
        have d2 : max (brsDep ps) e.dep + 1 ≤ d := dep
        have d3 : max (brsDep ps) e.dep + 1 ≤ 23 := d23
        obtain ⟨j, rfl⟩ : ∃ j, d = j + 1 := ⟨d - 1, by omega⟩
        obtain ⟨pn, ex2, ee, o, rfl⟩ := ex
        have ex2 := brsEx_iff.mp ex2
        have ok2 := (brsOk_iff ps).mp ok.2.1
        have hq : Qm (.d (brsGiven Ts R ps (o.ev Ts R)).d) := hq
        walk_at "k"
        rw [brsD_map]
        refine loop (l := ps) (f := fun p => .tuple [p.1.d, p.2.d]) (fun k ε => ∃ y2 y3 : Option DV, ε = [some (.d (Tr.d (.ite ps (.op o)))), some (.fr (rowsK Ts R)), y2, y3] ∧ brsGiven Ts R (ps.drop k) (o.ev Ts R) = brsGiven Ts R ps (o.ev Ts R)) ⟨_, _, rfl, rfl⟩ ?_ ?_
        · rintro k ⟨a, b⟩ ε hp ⟨y2, y3, rfl, hl⟩
          have mp := List.mem_of_getElem? hp
          rw [drop_cons hp] at hl
          have hl : (if a.ev Ts R then b.given Ts R else brsGiven Ts R (ps.drop (k + 1)) (o.ev Ts R)) = brsGiven Ts R ps (o.ev Ts R) := hl
          have dab := brsDep_le.mp (Nat.le_refl (brsDep ps)) (a, b) mp
          have da : a.dep ≤ brsDep ps := dab.1
          have db : b.dep ≤ brsDep ps := dab.2
          walk_at "m"
          refine ⟨Ts, pl, a, R, rfl, fm, nn, (ok2 _ mp).1, (ex2 _ mp).1, by show a.dep ≤ 23; omega, ?_⟩
          walk_at "m"
          cases c1 : a.ev Ts R with
          | true =>
            refine cndT rfl ?_
            rw [if_pos c1] at hl
            walk_at "m"
            refine ⟨Ts, pl, ws, tx, b, R, rfl, fm, nn, (ok2 _ mp).2, (ex2 _ mp).2, by omega, by omega, ?_⟩
            walk_at "m"
            rw [hl]
            exact hq
          | false =>
            refine cndF rfl ?_
            rw [if_neg (by rw [c1]; decide)] at hl
            walk_at "m"
            exact ⟨_, _, rfl, hl⟩
        · rintro ε ⟨y2, y3, rfl, hl⟩
          rw [List.drop_eq_nil_of_le (Nat.le_refl _)] at hl
          have hl : o.ev Ts R = _ := hl
          walk_at "k"
          refine ⟨Ts, R, o, rfl, fm, nn, in_at ee, ?_⟩
          walk_at "k"
          rw [hl]
          exact hq
end
end K10
namespace K10
open PySem PySem.Spec PyProof.Rows L2 Tq
open Mx
section
variable {P : Program} {w : World} {K : PySem.W.Frag} {mg : Str → Option Value} {base : Heap} [Mx.Tb] [Mx.Bs base mg]

theorem ok_cell_of (D : Ds K mg) (T : Txt mg) : FnOk P w K mg base CX0 76 D.cell_of.f D.cell_of.fd ["tables", "expression", "record"] (spM w K 3 (fCellOf)) := by
  have sc := sc_cell_of
  refine D.cell_of.F.ok sc (fun vs H Q E h => h.1) (fun cdv A outer s H vs Q E hr h => ?_)
  refine ⟨_, (pss_one (ps_ret (pe_call (ok_given_cell (w := w) (base := base) D T 24) hr (by rfl) D.given_cell.g D.given_cell.F.kp D.given_cell.b .nil pass0 (pa_cons (pv 1) (pa_cons (pe_call (ok_rows_by_name (w := w) (base := base) D T) (hr.mono (by decide)) (by rfl) D.rows_by_name.g D.rows_by_name.F.kp D.rows_by_name.b .nil pass0 (pa_cons (pv 0) (pa_cons (pv 2) pa_nil))) pa_nil))))), ?_⟩
  refine' body_m h ?ds (by decide) ?hm
  case ds => exact (ds_ret (de_call (da_cons (de_var 1) (da_cons (de_call (da_cons (de_var 0) (da_cons (de_var 2) da_nil))) da_nil))))
  case hm =>
    clear h hr
    intro dvs Qm hF
    obtain ⟨Ts, pl, ws, tx, tr, R, rfl, fm, nn, nc, ok, ex, dep, hq⟩ := hF
    try simp only [List.map_cons, List.map_nil, List.cons_append, List.nil_append, List.length_cons, List.length_nil, Nat.reduceAdd, Nat.reduceSub, List.replicate_succ, List.replicate_zero]
    walk_at "m"
    refine ⟨Ts, R, rfl, fm, nn, nc, ?_⟩
    walk_at "m"
    refine ⟨Ts, pl, ws, tx, tr, R, rfl, fm, nn, ok, ex, dep, dep, ?_⟩
    walk_at "m"
    exact hq
end
end K10
namespace K10
open PySem PySem.Spec PyProof.Rows L2 Tq
section
variable {P : Program} {w : World} {K : PySem.W.Frag} {mg : Str → Option Value} {base : Heap} [Mx.Tb] [Mx.Bs base mg]
def spTape (K : PySem.W.Frag) : Sp := fun vs H Q _ => ∃ (s : Addr) (ns : List Int), vs = [.ref s] ∧ SqL K H s (ns.map V.int) ∧ ns.length ≤ 63 ∧ ∀ (t a : Addr) (H' : Hp), Same H H' → Tape H' t a → H t = none → H a = none → Q (.ref t) H'

theorem ok_law_tape (D : Ds K mg) (T : Txt mg) : FnOk P w K mg base CX0 1 D.law_tape.f D.law_tape.fd ["script"] (spTape K) := by
  have sc := sc_law_tape
  refine D.law_tape.F.ok sc (fun vs H Q E h => ?_) (fun cdv A outer s H vs Q E hr h => ?_)
  · obtain ⟨s0, ns, rfl, _⟩ := h
    rfl
  · obtain ⟨s0, ns, rfl, hS, few, q⟩ := h
    refine ⟨_, (pss_cons (ps_set (i := 1) sc.nd rfl (Or.inl rfl) pe_int)
    (pss_cons (ps_for PassesOwn.never rfl (k_piL (K := K) rfl (pv 0)) (pg_name (i := 2) sc.nd rfl (Or.inl rfl)) (pss_one (ps_set (i := 1) sc.nd rfl (Or.inl rfl) (pe_op o_mod (pe_callTy c_int (by rfl) T.b_int (by decide +kernel) (pa_cons (pe_op o_add (pe_op o_mul (pv 1) pe_int) (pe_callB c_abs (by rfl) T.b_abs (by decide +kernel) (pa_cons (pe_callTy c_int (by rfl) T.b_int (by decide +kernel) (pa_cons (pv 2) pa_nil)) pa_nil))) pa_nil)) pe_int))))
    (pss_one (ps_ret (pe_lst (pa_cons (pe_callTy (k_list (K := K) rfl) (by rfl) T.b_list (by decide +kernel) (pa_cons (pv 0) pa_nil)) (pa_cons pe_int (pa_cons pe_int (pa_cons (pv 1) pa_nil))))))))), ?_⟩
    walk_at "go"
    refine ⟨s0, rfl, ⟨_, hS⟩, for_list (xs := ns.map V.int) (fun i σ H' => ∃ c y, σ = [some (.ref s0), some (.int c), y] ∧ 0 ≤ c ∧ H' = H) ⟨7, none, rfl, by decide, rfl⟩ ?_ ?_ ?_⟩
    · rintro i σ H' _ ⟨c, y, rfl, _, rfl⟩
      exact hS
    · rintro i x σ H' hx ⟨c, y, rfl, c0, rfl⟩
      obtain ⟨z, _, rfl⟩ : ∃ z, ns[i]? = some z ∧ x = V.int z := by
        rw [List.getElem?_map] at hx
        cases e : ns[i]? with
        | none => rw [e] at hx; cases hx
        | some z => rw [e] at hx; exact ⟨z, rfl, (Option.some.inj hx).symm⟩
      have m31 : CMul c 31 := .inr ⟨by decide, by decide⟩
      have z0 := abs_nn z
      walk_at "go"
      exact ⟨_, _, rfl, (fmod_lt (by omega) (by decide)).1, rfl⟩
    · rintro σ H' ⟨c, y, rfl, c0, rfl⟩
      walk_at "go"
      refine l_listL hS fun l nl => ?_
      walk_at "go"
      refine ⟨(by show 4 ≤ sizeLine; decide), fun p np => ?_⟩
      show Q _ _
      have nlp : l ≠ p := fun e => by
        rw [← e, upd_same] at np
        cases np
      have np' : H' p = none := by rwa [upd_ne nlp.symm] at np
      refine q p l _ ((new_same nl).trans (new_same np)) ⟨ns, 0, 0, c, nlp, by decide, by decide, c0, by rw [upd_ne nlp]; exact upd_same, upd_same⟩ np' nl
end
end K10
namespace K10
open PySem PySem.Spec PyProof.Rows L2 Tq
section
variable {P : Program} {w : World} {K : PySem.W.Frag} {mg : Str → Option Value} {base : Heap} [Mx.Tb] [Mx.Bs base mg]
/-- what a draw gives: a number below the bound, the tape as a tape -/
def spDraw (K : PySem.W.Frag) : Sp := fun vs H Q _ => ∃ (t a : Addr) (m : Int), vs = [.ref t, .int m] ∧ Tape H t a ∧ m < 1000000000000 ∧
  ∀ (n : Int) (H' : Hp), 0 ≤ n → n < max m 1 → Tape H' t a → But t H H' → Q (.int n) H'

theorem ok_law_draw (D : Ds K mg) (T : Txt mg) : FnOk P w K mg base CX0 1 D.law_draw.f D.law_draw.fd ["tape", "many"] (spDraw K) := by
  have sc := sc_law_draw
  refine D.law_draw.F.ok sc (fun vs H Q E h => ?_) (fun cdv A outer s H vs Q E hr h => ?_)
  · obtain ⟨t, a, m, rfl, _⟩ := h
    rfl
  · obtain ⟨t, a, m, rfl, hT, hm, q⟩ := h
    refine ⟨_, (pss_cons (ps_if (pt_cmpR op_eq (pe_ix (k_ixL (K := K) rfl) (pv 0) pe_int (fun _ _ => rfl)) pe_int (nomark _)) (pss_cons (ps_set (i := 2) sc.nd rfl (Or.inl rfl) (pe_ix (k_ixL (K := K) rfl) (pv 0) pe_int (fun _ _ => rfl)))
    (pss_cons (ps_set (i := 3) sc.nd rfl (Or.inl rfl) pe_int)
    (pss_cons (ps_if (pt_cmpR o_lt (pv 2) (pe_callB (k_len (K := K) rfl) (by rfl) T.b_len PySem.boot_len (pa_cons (pe_ix (k_ixL (K := K) rfl) (pv 0) pe_int (fun _ _ => rfl)) pa_nil)) (nomark _)) (pss_one (ps_set (i := 3) sc.nd rfl (Or.inl rfl) (pe_callB c_abs (by rfl) T.b_abs (by decide +kernel) (pa_cons (pe_callTy c_int (by rfl) T.b_int (by decide +kernel) (pa_cons (pe_ix (k_ixL (K := K) rfl) (pe_ix (k_ixL (K := K) rfl) (pv 0) pe_int (fun _ _ => rfl)) (pv 2) (fun _ _ => rfl)) pa_nil)) pa_nil)))) (pss_cons (ps_asg (pe_op o_mod (pe_callTy c_int (by rfl) T.b_int (by decide +kernel) (pa_cons (pe_op o_add (pe_op o_add (pe_op o_mul (pe_ix (k_ixL (K := K) rfl) (pv 0) pe_int (fun _ _ => rfl)) pe_int) (pv 2)) pe_int) pa_nil)) pe_int) (pg_sub (pv 0) pe_int set_list))
    (pss_one (ps_set (i := 3) sc.nd rfl (Or.inl rfl) (pe_ix (k_ixL (K := K) rfl) (pv 0) pe_int (fun _ _ => rfl))))))
    (pss_cons (ps_asg (pe_op o_add (pv 2) pe_int) (pg_sub (pv 0) pe_int set_list))
    (pss_cons (ps_if (pt_cmpR o_lt (pv 3) (pe_op o_pow pe_int pe_int) (nomark _)) (pss_cons (ps_set (i := 3) sc.nd rfl (Or.inl rfl) (pe_op o_mod (pe_callTy c_int (by rfl) T.b_int (by decide +kernel) (pa_cons (pe_op o_add (pe_op o_add (pe_op o_mul (pv 3) pe_int) (pe_op o_mul (pv 2) pe_int)) pe_int) pa_nil)) pe_int))
    (pss_cons (ps_set (i := 3) sc.nd rfl (Or.inl rfl) (pe_op o_mod (pe_callTy c_int (by rfl) T.b_int (by decide +kernel) (pa_cons (pe_op o_mul (pv 3) pe_int) pa_nil)) pe_int))
    (pss_one (ps_ret (pe_op o_mod (pe_callTy c_int (by rfl) T.b_int (by decide +kernel) (pa_cons (pv 3) pa_nil)) (pe_callB (c_max rfl) (by rfl) T.b_max (by decide +kernel) (pa_cons (pv 1) (pa_cons pe_int pa_nil)))))))) pss_nil)
    (pss_one (ps_asg (pv 3) (pg_sub (pv 0) pe_int set_list)))))))) pss_nil)
    (pss_cons (ps_set (i := 3) sc.nd rfl (Or.inl rfl) (pe_ix (k_ixL (K := K) rfl) (pv 0) pe_int (fun _ _ => rfl)))
    (pss_cons (ps_asg (pe_op o_div (pv 3) (pe_callB (c_max rfl) (by rfl) T.b_max (by decide +kernel) (pa_cons (pv 1) (pa_cons pe_int pa_nil)))) (pg_sub (pv 0) pe_int set_list))
    (pss_one (ps_ret (pe_op o_mod (pe_callTy c_int (by rfl) T.b_int (by decide +kernel) (pa_cons (pv 3) pa_nil)) (pe_callB (c_max rfl) (by rfl) T.b_max (by decide +kernel) (pa_cons (pv 1) (pa_cons pe_int pa_nil))))))))), ?_⟩
    obtain ⟨ns, p, c, d, nat, p0, c0, d0, ha, ht⟩ := hT
    have k1 : (0 : Int) < (if 1 > m then 1 else m) := by split <;> omega
    have k2 : (1 : Int) < (if 2 > m then 2 else m) ∧ (if 2 > m then 2 else m) < 1073741824000 := by split <;> omega
    have e1 : (if 1 > m then 1 else m) = max m 1 := max_eq m 1
    have fin : ∀ (p' c' d' z : Int), 0 ≤ p' → 0 ≤ c' → 0 ≤ d' → 0 ≤ z → Q (V.int (z.fmod (if 1 > m then 1 else m))) (upd H t (.lst [.ref a, .int p', .int c', .int d'])) := by
      intro p' c' d' z a1 a2 a3 a4
      have f := fmod_lt a4 k1
      refine q _ _ f.1 (by rw [← e1]; exact f.2) ⟨ns, p', c', d', nat, a1, a2, a3, by rw [upd_ne nat]; exact ha, upd_same⟩ (But.upd (But.refl t H))
    have m48 : ∀ z : Int, CMul z 48271 := fun z => .inr ⟨by decide, by decide⟩
    walk_at "go"
    refine l_if (fun c1 => ?_) (fun c1 => ?_)
    · subst c1
      walk_at "go"
      refine l_if (fun c2 => ?_) (fun c2 => ?_)
      · rw [List.length_map] at c2
        obtain ⟨z, hz, _⟩ := atI_map (f := V.int) p0 c2
        have z0 := abs_nn z
        walk_at "go"
        refine l_if (fun c3 => ?_) (fun c3 => ?_)
        · walk_at "go"
          show Q _ _
          exact fin (p + 1) 0 d _ (by omega) (by omega) d0 (fmod_lt (Int.mul_nonneg (fmod_lt (by omega) (by decide)).1 (by decide)) (by decide)).1
        · walk_at "go"
          show Q _ _
          have z1 := fdiv_nn z0 (show (0 : Int) < (if 2 > m then 2 else m) by omega)
          rw [upd_upd, upd_upd]
          exact fin (p + 1) _ d _ (by omega) z1 d0 z0
      · walk_at "go"
        have d1 : 0 ≤ (d * 48271 + p + 1).fmod 2147483647 := (fmod_lt (by omega) (by decide)).1
        refine l_if (fun c3 => ?_) (fun c3 => ?_)
        · walk_at "go"
          show Q _ _
          rw [upd_upd]
          exact fin (p + 1) 0 _ _ (by omega) (by omega) d1 (fmod_lt (Int.mul_nonneg (fmod_lt (by omega) (by decide)).1 (by decide)) (by decide)).1
        · walk_at "go"
          show Q _ _
          have z1 := fdiv_nn d1 (show (0 : Int) < (if 2 > m then 2 else m) by omega)
          rw [upd_upd, upd_upd, upd_upd]
          exact fin (p + 1) _ _ _ (by omega) z1 d1 d1
    · walk_at "go"
      show Q _ _
      exact fin p _ d c p0 (fdiv_nn c0 (by omega)) d0 c0

open Mx in
theorem om_law_draw (D : Ds K mg) (T : Txt mg) : FnOk P w K mg base CX0 1 D.law_draw.f D.law_draw.fd ["tape", "many"] (spM w K 2 (fDraw)) := by
  refine imp_m (ok_law_draw (base := base) D T) fun T0 H vs dvs Qm Q E t p m q => ?_
  obtain ⟨m, rfl, hm, hq⟩ := m
  obtain ⟨v, u, rfl, h1, h2⟩ := p2 p
  obtain ⟨pp, hpp, rfl⟩ := h1
  obtain rfl : T0 = some pp := hpp
  rw [dp_int h2.1]
  exact ⟨pp.1, pp.2, m, rfl, t.1 pp rfl, hm, fun n H' n0 n1 T' B' => q _ _ H' (came_but t B' T' (.int n) (pd_int n)) (hq n n0 n1)⟩
end
end K10
namespace K10
open PySem PySem.Spec PyProof.Rows L2 Tq
section
variable {P : Program} {w : World} {K : PySem.W.Frag} {mg : Str → Option Value} {base : Heap} [Mx.Tb] [Mx.Bs base mg]
def spRes (K : PySem.W.Frag) : Sp := fun vs H Q _ => vs = [] ∧ ∀ (d : Addr) (H' : Hp), H d = none → Same H H' → H' d = some (.lst (reserved.map V.str)) → Q (.ref d) H'

theorem ok_law_reserved (D : Ds K mg) (T : Txt mg) : FnOk P w K mg base CX0 1 D.law_reserved.f D.law_reserved.fd [] (spRes K) := by
  have sc := sc_law_reserved
  refine D.law_reserved.F.ok sc (fun vs H Q E h => ?_) (fun cdv A outer s H vs Q E hr h => ?_)
  · obtain ⟨rfl, _⟩ := h
    rfl
  · obtain ⟨rfl, q⟩ := h
    refine ⟨_, (pss_one (ps_ret (pe_lst (pa_cons pe_str (pa_cons pe_str (pa_cons pe_str (pa_cons pe_str (pa_cons pe_str (pa_cons pe_str (pa_cons pe_str (pa_cons pe_str (pa_cons pe_str (pa_cons pe_str (pa_cons pe_str (pa_cons pe_str (pa_cons pe_str (pa_cons pe_str (pa_cons pe_str (pa_cons pe_str pa_nil))))))))))))))))))), ?_⟩
    walk_at "go"
    refine ⟨by decide, fun d nd => ?_⟩
    show Q _ _
    exact q d _ nd (new_same nd) upd_same
end
end K10
namespace K10
open PySem PySem.Spec PyProof.Rows L2 Tq
section
variable {P : Program} {w : World} {K : PySem.W.Frag} {mg : Str → Option Value} {base : Heap} [Mx.Tb] [Mx.Bs base mg]
def spWords (K : PySem.W.Frag) : Sp := fun vs H Q _ => ∃ (t a : Addr) (m : Int) (p0 : Addr) (tk : List Str), vs = [.ref t, .int m, .ref p0] ∧ Tape H t a ∧ 0 ≤ m ∧ m ≤ 40 ∧ Sq K H p0 (tk.map V.str) ∧ p0 ≠ t ∧ tk.length ≤ 40 ∧
  ∀ (ts : List Str) (d : Addr) (H' : Hp), ts.length = m.toNat → ts.Nodup → (∀ z ∈ ts, z ∉ tk) → (∀ z ∈ ts, IsName z) → But t H H' → H d = none → H' d = some (.lst (ts.map V.str)) → Tape H' t a → Q (.ref d) H'
def letters : Str := "abcdefghijklmnopqrstuvwxyz"
def wmarks : Str := letters ++ "0123456789_"
theorem letters_ok : ∀ c ∈ letters.cps.toList, 97 ≤ c ∧ c ≤ 122 := by decide +kernel
theorem wmarks_ok : ∀ c ∈ wmarks.cps.toList, isM c := by decide +kernel
theorem letters_len : letters.cps.toList.length = 26 := by decide +kernel
theorem cust_w : IsW (Str.ofString "customer_number_") := ⟨⟨_, _, rfl, by decide, by decide⟩, by decide +kernel⟩
theorem of_ok : ∀ c ∈ (Str.ofString "_of_the_customer_1").cps.toList, isM c := by decide +kernel
theorem wmarks_len : wmarks.cps.toList.length = 37 := by decide +kernel

theorem ok_law_words (D : Ds K mg) (T : Txt mg) : FnOk P w K mg base CX0 2 D.law_words.f D.law_words.fd ["tape", "many", "taken"] (spWords K) := by
  have sc := sc_law_words
  refine D.law_words.F.ok sc (fun vs H Q E h => ?_) (fun cdv A outer s H vs Q E hr h => ?_)
  · obtain ⟨t, a, m, p0, tk, rfl, _⟩ := h
    rfl
  · obtain ⟨t, a, m, p0, tk, rfl, hT, m0, m1, hq0, pt, tl, q⟩ := h
    refine ⟨_, (pss_cons (ps_set (i := 3) sc.nd rfl (Or.inl rfl) pe_str)
    (pss_cons (ps_set (i := 4) sc.nd rfl (Or.inl rfl) (pe_op o_addS (pv 3) pe_str))
    (pss_cons (ps_set (i := 5) sc.nd rfl (Or.inl rfl) (pe_call (ok_law_draw (base := base) D T) hr (by rfl) D.law_draw.g D.law_draw.F.kp D.law_draw.b .nil pass0 (pa_cons (pv 0) (pa_cons pe_int pa_nil))))
    (pss_cons (ps_set (i := 6) sc.nd rfl (Or.inl rfl) (pe_lst pa_nil))
    (pss_cons (ps_for PassesOwn.never rfl (pi_range1 (by rfl) T.b_range (pa_cons (pv 1) pa_nil)) (pg_name (i := 7) sc.nd rfl (Or.inl rfl)) (pss_cons (ps_set (i := 8) sc.nd rfl (Or.inl rfl) (pe_call (ok_law_draw (base := base) D T) hr (by rfl) D.law_draw.g D.law_draw.F.kp D.law_draw.b .nil pass0 (pa_cons (pv 0) (pa_cons (pe_op o_mul (pe_op o_mul (pe_op o_mul pe_int pe_int) pe_int) pe_int) pa_nil))))
    (pss_cons (ps_set (i := 9) sc.nd rfl (Or.inl rfl) (pe_op o_addS (pe_op o_addS (pe_ix ix_str (pv 3) (pe_op o_mod (pe_callTy c_int (by rfl) T.b_int (by decide +kernel) (pa_cons (pv 8) pa_nil)) pe_int) (fun _ _ => rfl)) (pe_ix ix_str (pv 4) (pe_op o_mod (pe_callTy c_int (by rfl) T.b_int (by decide +kernel) (pa_cons (pe_op o_div (pv 8) pe_int) pa_nil)) pe_int) (fun _ _ => rfl))) (pe_ix ix_str (pv 4) (pe_op o_mod (pe_callTy c_int (by rfl) T.b_int (by decide +kernel) (pa_cons (pe_op o_div (pv 8) pe_int) pa_nil)) pe_int) (fun _ _ => rfl))))
    (pss_cons (ps_set (i := 9) sc.nd rfl (Or.inl rfl) (pe_slice sl_str (pv 9) po_none (po_some (pe_op o_add pe_int (pe_op o_mod (pe_callTy c_int (by rfl) T.b_int (by decide +kernel) (pa_cons (pe_op o_div (pv 8) pe_int) pa_nil)) pe_int)))))
    (pss_cons (ps_if (pt_cmpR op_eq (pv 5) pe_int (nomark _)) (pss_one (ps_set (i := 9) sc.nd rfl (Or.inl rfl) (pe_op o_addS pe_str (pv 9)))) pss_nil)
    (pss_cons (ps_if (pt_cmpR op_eq (pv 5) pe_int (nomark _)) (pss_one (ps_set (i := 9) sc.nd rfl (Or.inl rfl) (pe_op o_addS (pv 9) (pe_slice sl_str pe_str po_none (po_some (pe_op o_sub pe_int (pe_callB c_lenS (by rfl) T.b_len PySem.boot_len (pa_cons (pv 9) pa_nil)))))))) pss_nil)
    (pss_cons (ps_if (pt_cmpR op_eq (pv 5) pe_int (nomark _)) (pss_one (ps_set (i := 9) sc.nd rfl (Or.inl rfl) (pe_op o_addS (pe_ix (k_ixL (K := K) rfl) (pe_call0 (ok_law_reserved (base := base) D T) hr (by rfl) D.law_reserved.g D.law_reserved.F.kp D.law_reserved.b .nil pass0) (pe_op o_mod (pe_callTy c_int (by rfl) T.b_int (by decide +kernel) (pa_cons (pv 8) pa_nil)) pe_int) (fun _ _ => rfl)) (pv 9)))) pss_nil)
    (pss_cons (ps_set (i := 10) sc.nd rfl (Or.inl rfl) (pv 9))
    (pss_cons (ps_for PassesOwn.never rfl (pi_range1 (by rfl) T.b_range (pa_cons (pe_op o_add (pe_op o_add (pe_callB (k_len (K := K) rfl) (by rfl) T.b_len PySem.boot_len (pa_cons (pv 6) pa_nil)) (pe_callB (k_len (K := K) rfl) (by rfl) T.b_len PySem.boot_len (pa_cons (pv 2) pa_nil))) pe_int) pa_nil)) (pg_name (i := 11) sc.nd rfl (Or.inl rfl)) (pss_cons (ps_if (PW.pt (pw_and (pt_cmpR (k_notIn (K := K) rfl) (pv 9) (pv 6) (by rfl)) (pw_and (pt_cmpR (k_notIn (K := K) rfl) (pv 9) (pv 2) (by rfl)) (pw_and1 (pt_cmpR (k_notIn (K := K) rfl) (pv 9) (pe_call0 (ok_law_reserved (base := base) D T) hr (by rfl) D.law_reserved.g D.law_reserved.F.kp D.law_reserved.b .nil pass0) (by rfl)))))) (pss_one ps_break) pss_nil)
    (pss_one (ps_set (i := 9) sc.nd rfl (Or.inl rfl) (pe_op o_addS (pe_op o_addS (pe_slice sl_str (pv 10) po_none (po_some pe_int)) pe_str) (pe_callTy c_str (by rfl) T.b_str (by decide +kernel) (pa_cons (pv 11) pa_nil)))))))
    (pss_one (ps_expr (pe_bm PySem.F.plainAttrs_list PySem.F.slot_list_append PySem.F.type_list_append mt_append (pv 6) (pa_cons (pv 9) pa_nil)))))))))))))
    (pss_one (ps_ret (pv 6)))))))), ?_⟩
    walk_at "go"
    refine ⟨t, a, 8, rfl, hT, by decide, fun sh H1 s0 s1 T1 B1 => ?_⟩
    walk_at "go"
    refine ⟨Nat.zero_le _, fun d nd => ?_⟩
    walk_at "go"
    have dt := T1.ne nd
    have nd0 : H d = none := B1.free nd dt.1
    refine ⟨m, rfl, by omega, by omega, for_range (fun i σ H' => ∃ (ts : List Str) (y1 y2 y3 y4 y5 : Option V), σ = [some (.ref t), some (.int m), some (.ref p0), some (.str letters), some (.str wmarks), some (.int sh), some (.ref d), y1, y2, y3, y4, y5] ∧ ts.length = i ∧ ts.Nodup ∧ (∀ z ∈ ts, z ∉ tk) ∧ (∀ z ∈ ts, IsName z) ∧
      H' d = some (.lst (ts.map V.str)) ∧ Tape H' t a ∧ But t H H') ⟨[], none, none, none, none, none, rfl, rfl, List.nodup_nil, by simp, by simp, upd_same, T1.put dt.1 dt.2, But.new B1 nd0⟩ ?_ ?_⟩
    · rintro i σ H2 hi ⟨ts, y1, y2, y3, y4, y5, rfl, el, nd1, nk, tx, hd, T2, B2⟩
      walk_at "go"
      refine ⟨t, a, _, rfl, T2, by decide, fun n H3 n0 n1 T3 B3 => ?_⟩
      have hd3 := B3 d _ dt.1 hd
      have B13 := B2.trans B3
      have hp3 := hq0.but B13 pt
      have i1 := fmod_lt n0 (show (0 : Int) < 26 by decide)
      have i2 := fmod_lt (fdiv_nn n0 (show (0 : Int) < 26 by decide)) (show (0 : Int) < 37 by decide)
      have i3 := fmod_lt (fdiv_nn n0 (show (0 : Int) < 962 by decide)) (show (0 : Int) < 37 by decide)
      have i4 := fmod_lt (fdiv_nn n0 (show (0 : Int) < 35594 by decide)) (show (0 : Int) < 3 by decide)
      have i5 := fmod_lt n0 (show (0 : Int) < 16 by decide)
      have ll : letters.length ≤ sizeLine := by decide
      have wl : wmarks.length ≤ sizeLine := by decide
      obtain ⟨x1, hx1, hm1⟩ := atI_some (xs := letters.cps.toList) i1.1 (by rw [letters_len]; exact i1.2)
      obtain ⟨x2, hx2, hm2⟩ := atI_some (xs := wmarks.cps.toList) i2.1 (by rw [wmarks_len]; exact i2.2)
      obtain ⟨x3, hx3, hm3⟩ := atI_some (xs := wmarks.cps.toList) i3.1 (by rw [wmarks_len]; exact i3.2)
      have o1 := letters_ok x1 (List.mem_of_getElem? hm1)
      have o2 := wmarks_ok x2 (List.mem_of_getElem? hm2)
      have o3 := wmarks_ok x3 (List.mem_of_getElem? hm3)
      walk_at "go"
      refine l_addS (fits (by rw [one_len, one_len]; omega)) ?_
      walk_at "go"
      refine l_addS (fits (by rw [app_len, one_len, one_len, one_len]; omega)) ?_
      walk_at "go"
      have W0 : IsW ((⟨#[x1]⟩ ++ ⟨#[x2]⟩ : Str) ++ ⟨#[x3]⟩) := (IsW.app (a := ⟨#[x1]⟩) ⟨⟨x1, [], rfl, o1⟩, fun c hc => by rw [List.mem_singleton.mp hc]; exact .inl o1⟩ fun c hc => by rw [List.mem_singleton.mp hc]; exact o2).app fun c hc => by rw [List.mem_singleton.mp hc]; exact o3
      refine l_part ?_
      walk_at "go"
      refine ⟨_, rfl, ?_⟩
      refine l_slS (fits (by rw [app_len, app_len, one_len, one_len, one_len]; omega)) ?_
      have W1 := W0.cut (n := 1 + (n.fdiv 35594).fmod 3) (by omega)
      have L1 := scut_len ((⟨#[x1]⟩ ++ ⟨#[x2]⟩ : Str) ++ ⟨#[x3]⟩) (n := 1 + (n.fdiv 35594).fmod 3) (by omega)
      generalize cutS ((⟨#[x1]⟩ ++ ⟨#[x2]⟩ : Str) ++ ⟨#[x3]⟩) none (some (1 + (n.fdiv 35594).fmod 3)) = u1 at W1 L1 ⊢
      refine l_gname ?_
      -- the shape
      with_reducible refine' l_cut (fun σ' H' => ∃ u : Str, σ' = [some (.ref t), some (.int m), some (.ref p0), some (.str letters), some (.str wmarks), some (.int sh), some (.ref d), some (.int (0 + (i : Int))), some (.int n), some (.str u), y4, y5] ∧ IsW u ∧ u.length ≤ 20 ∧ (sh = 3 → u.length ≤ 3) ∧ Same H3 H') (fun N hN => ?_) ?_
      · walk_at "go"
        refine l_if (fun c1 => ?_) (fun c1 => ?_)
        · have c16 : (Str.ofString "customer_number_").length = 16 := rfl
          walk_at "go"
          refine l_addS (fits (by omega)) ?_
          walk_at "go"
          exact hN _ _ ⟨_, rfl, cust_w.app W1.all, by rw [app_len]; omega, fun e => by omega, Same.refl _⟩
        · walk_at "go"
          exact hN _ _ ⟨_, rfl, W1, by omega, fun e => by omega, Same.refl _⟩
      · rintro σ' H4 ⟨u2, rfl, W2, L2, Z2, S4⟩
        with_reducible refine' l_cut (fun σ' H' => ∃ u : Str, σ' = [some (.ref t), some (.int m), some (.ref p0), some (.str letters), some (.str wmarks), some (.int sh), some (.ref d), some (.int (0 + (i : Int))), some (.int n), some (.str u), y4, y5] ∧ IsW u ∧ u.length ≤ 20 ∧ (sh = 3 → u.length ≤ 3) ∧ Same H3 H') (fun N hN => ?_) ?_
        · walk_at "go"
          refine l_if (fun c1 => ?_) (fun c1 => ?_)
          · walk_at "go"
            refine l_part ?_
            walk_at "go"
            refine l_lenS (fits (by omega)) ?_
            walk_at "go"
            refine ⟨_, rfl, ?_⟩
            refine l_slS (by decide) ?_
            have a1 := scut_all of_ok (n := 20 - (u2.length : Int)) (by omega)
            have a2 := scut_len (Str.ofString "_of_the_customer_1") (n := 20 - (u2.length : Int)) (by omega)
            refine l_addS (fits (by omega)) ?_
            walk_at "go"
            exact hN _ _ ⟨_, rfl, W2.app a1, by rw [app_len]; omega, fun e => by omega, S4⟩
          · walk_at "go"
            exact hN _ _ ⟨_, rfl, W2, L2, Z2, S4⟩
        · rintro σ' H5 ⟨u3, rfl, W3, L3, Z3, S5⟩
          with_reducible refine' l_cut (fun σ' H' => ∃ u : Str, σ' = [some (.ref t), some (.int m), some (.ref p0), some (.str letters), some (.str wmarks), some (.int sh), some (.ref d), some (.int (0 + (i : Int))), some (.int n), some (.str u), y4, y5] ∧ IsW u ∧ u.length ≤ 20 ∧ Same H3 H') (fun N hN => ?_) ?_
          · walk_at "go"
            refine l_if (fun c1 => ?_) (fun c1 => ?_)
            · obtain ⟨z, hz, hz2⟩ := atI_map (f := V.str) (xs := reserved) i5.1 (by rw [show reserved.length = 16 from rfl]; exact i5.2)
              have zr := reserved_w z (List.mem_of_getElem? hz2)
              have z3 := Z3 c1
              walk_at "go"
              refine ⟨rfl, fun r H6 nr S6 hr6 => ?_⟩
              walk_at "go"
              refine l_addS (fits (by omega)) ?_
              walk_at "go"
              refine hN _ _ ⟨_, rfl, IsW.app ?_ W3.all, by rw [app_len]; omega, S5.trans S6⟩
              obtain ⟨c, cs, e⟩ := List.exists_cons_of_ne_nil zr.2.2
              exact ⟨⟨c, cs, e, zr.1 c (by rw [e]; exact List.mem_cons_self)⟩, fun c hc => .inl (zr.1 c hc)⟩
            · walk_at "go"
              exact hN _ _ ⟨_, rfl, W3, L3, S5⟩
          · rintro σ' H6 ⟨u4, rfl, W4, L4, S6⟩
            refine l_seq ?_
            refine l_asg ?_
            refine l_var rfl ?_
            refine l_gname ?_
            have W17 : IsW (cutS u4 none (some 17)) := W4.cut (by decide)
            have L17 := scut_len u4 (n := 17) (by decide)
            have Wq : IsW (cutS u4 none (some 17) ++ Str.ofString "q") := W17.app (by decide +kernel)
            have q1 : (Str.ofString "q").length = 1 := rfl
            have Lq : (cutS u4 none (some 17) ++ Str.ofString "q").length ≤ 18 := by rw [app_len]; omega
            generalize eb : cutS u4 none (some 17) ++ Str.ofString "q" = bq at Wq Lq
            with_reducible refine' l_cut (fun σ' H' => ∃ (u : Str) (y : Option V), σ' = [some (.ref t), some (.int m), some (.ref p0), some (.str letters), some (.str wmarks), some (.int sh), some (.ref d), some (.int (0 + (i : Int))), some (.int n), some (.str u), some (.str u4), y] ∧ IsName u ∧ u ∉ ts ∧ u ∉ tk ∧ Same H3 H') (fun N hN => ?_) ?_
            · have hd6 := S6 _ _ hd3
              have hp6 := hp3.same S6
              have lm1 : (ts.map V.str).length = ts.length := List.length_map ..
              have lm2 : (tk.map V.str).length = tk.length := List.length_map ..
              have tl1 : ts.length ≤ 40 := by omega
              walk_at "go"
              refine l_lenX hp6 ?_
              walk_at "go"
              refine ⟨_, rfl, by rw [lm1, lm2]; omega, by rw [lm1, lm2]; omega, ?_⟩
              rw [lm1, lm2, show ((ts.length : Int) + (tk.length : Int) + 2).toNat = ts.length + tk.length + 2 by omega]
              refine for_range (fun j σ H' => ∃ (u : Str) (y : Option V), σ = [some (.ref t), some (.int m), some (.ref p0), some (.str letters), some (.str wmarks), some (.int sh), some (.ref d), some (.int (0 + (i : Int))), some (.int n), some (.str u), some (.str u4), y] ∧ (j = 0 → u = u4) ∧ (∀ k, k + 1 = j → u = nm bq k) ∧ (∀ k, k + 1 < j → nm bq k ∈ ts ++ tk) ∧ Same H3 H')
                ⟨u4, _, rfl, fun _ => rfl, fun k e => (nomatch e), fun k e => (nomatch e), S6⟩ ?_ ?_
              · rintro j σ H7 hj ⟨u, y, rfl, u0, ue, uh, S7⟩
                have hd7 := S7 _ _ hd3
                have hp7 := hp3.same S7
                have Wu : IsW u ∧ u.length ≤ 20 := by
                  cases j with
                  | zero => rw [u0 rfl]; exact ⟨W4, L4⟩
                  | succ k => rw [ue k rfl]; have := name_nm Wq Lq (k := k) (by omega); exact ⟨this.w, this.len⟩
                walk_at "go"
                refine l_in (.inl (sqL hd7)) ?_
                walk_at "go"
                have nxt : (u ∈ ts ∨ u ∈ tk ∨ u ∈ reserved) → ∀ k, k + 1 < j + 1 → nm bq k ∈ ts ++ tk := by
                  intro hu k e
                  by_cases e2 : k + 1 < j
                  · exact uh k e2
                  · have ek := ue k (by omega)
                    rcases hu with h | h | h
                    · exact List.mem_append_left _ (ek ▸ h)
                    · exact List.mem_append_right _ (ek ▸ h)
                    · exact absurd (ek ▸ h) (nm_free bq k)
                have k1 : (0 + (j : Int)) = (j : Int) := by omega
                have ln : (Str.ofString (toString (j : Int))).length ≤ 5 := numS_len (k := j) (by omega)
                refine l_ifN (fun c1 => ?_) (fun c1 => ?_)
                · walk_at "go"
                  refine l_in hp7 ?_
                  walk_at "go"
                  refine l_ifN (fun c2 => ?_) (fun c2 => ?_)
                  · walk_at "go"
                    refine ⟨rfl, fun r H8 nr S8 hr8 => ?_⟩
                    walk_at "go"
                    refine l_in (.inl (sqL hr8)) ?_
                    walk_at "go"
                    refine l_ifN (fun c3 => ?_) (fun c3 => ?_)
                    · show N _ _
                      exact hN _ _ ⟨u, _, rfl, ⟨Wu.1, Wu.2, c3⟩, c1, c2, S7.trans S8⟩
                    · skip
                      walk_at "go"
                      refine l_part ?_
                      walk_at "go"
                      refine ⟨_, rfl, ?_⟩
                      refine l_slS (fits (by omega)) ?_
                      walk_at "go"
                      refine l_addS (fits (by omega)) ?_
                      rw [eb]
                      walk_at "go"
                      rw [k1]
                      refine l_str (log_small (by omega) (by omega)) ?_
                      walk_at "go"
                      refine l_addS (fits (by omega)) ?_
                      walk_at "go"
                      exact ⟨nm bq j, _, rfl, fun e => (nomatch e), fun k e => by rw [show k = j by omega], nxt (.inr (.inr c3)), S7.trans S8⟩
                  · skip
                    walk_at "go"
                    refine l_part ?_
                    walk_at "go"
                    refine ⟨_, rfl, ?_⟩
                    refine l_slS (fits (by omega)) ?_
                    walk_at "go"
                    refine l_addS (fits (by omega)) ?_
                    rw [eb]
                    walk_at "go"
                    rw [k1]
                    refine l_str (log_small (by omega) (by omega)) ?_
                    walk_at "go"
                    refine l_addS (fits (by omega)) ?_
                    walk_at "go"
                    exact ⟨nm bq j, _, rfl, fun e => (nomatch e), fun k e => by rw [show k = j by omega], nxt (.inr (.inl c2)), S7⟩
                · skip
                  walk_at "go"
                  refine l_part ?_
                  walk_at "go"
                  refine ⟨_, rfl, ?_⟩
                  refine l_slS (fits (by omega)) ?_
                  walk_at "go"
                  refine l_addS (fits (by omega)) ?_
                  rw [eb]
                  walk_at "go"
                  rw [k1]
                  refine l_str (log_small (by omega) (by omega)) ?_
                  walk_at "go"
                  refine l_addS (fits (by omega)) ?_
                  walk_at "go"
                  exact ⟨nm bq j, _, rfl, fun e => (nomatch e), fun k e => by rw [show k = j by omega], nxt (.inl c1), S7⟩
              · rintro σ H7 ⟨u, y, rfl, u0, ue, uh, S7⟩
                exact absurd (few_names uh) (by omega)
            · rintro σ' H7 ⟨u, y, rfl, Nu, n1, n2, S7⟩
              have room : (ts.map V.str).length < sizeLine := fits_lt (by rw [List.length_map]; omega)
              have hd7 := S7 _ _ hd3
              walk_at "go"
              refine ⟨ts ++ [u], _, _, _, _, _, rfl, by rw [List.length_append, List.length_singleton, el], ?_, ?_, ?_, by rw [upd_same, List.map_append]; rfl, (T3.same S7).put dt.1 dt.2, ?_⟩
              · rw [List.nodup_append]
                exact ⟨nd1, by simp, fun y hy w hw e => n1 (by rw [List.mem_singleton.mp hw] at e; exact e ▸ hy)⟩
              · intro y hy
                rcases List.mem_append.mp hy with hy | hy
                · exact nk y hy
                · rw [List.mem_singleton.mp hy]; exact n2
              · intro y hy
                rcases List.mem_append.mp hy with hy | hy
                · exact tx y hy
                · rw [List.mem_singleton.mp hy]; exact Nu
              · intro b o nb hb
                rw [upd_ne (ne_of_none hb nd0)]
                exact S7 b o (B13 b o nb hb)
    · rintro σ H2 ⟨ts, y1, y2, y3, y4, y5, rfl, el, nd1, nk, tx, hd, T2, B2⟩
      walk_at "go"
      show Q _ _
      exact q ts d H2 (by omega) nd1 nk tx B2 nd0 hd T2

open Mx in
theorem om_law_words (D : Ds K mg) (T : Txt mg) : FnOk P w K mg base CX0 2 D.law_words.f D.law_words.fd ["tape", "many", "taken"] (spM w K 3 (fWords)) := by
  refine imp_m (ok_law_words (base := base) D T) fun T0 H vs dvs Qm Q E t p m q => ?_
  obtain ⟨m, tk, rfl, m0, m1, tl, hq⟩ := m
  obtain ⟨v, u, r, rfl, h1, h2, h3⟩ := p3 p
  obtain ⟨pp, hpp, rfl⟩ := h1
  obtain rfl : T0 = some pp := hpp
  obtain ⟨b, us, rfl, hb, hs, _, nb⟩ := h3
  obtain ⟨e1, _⟩ := strs_of hs (strsOf_map tk)
  subst e1
  rw [dp_int h2.1]
  refine ⟨pp.1, pp.2, m, b, tk, rfl, t.1 pp rfl, m0, m1, .inl (sqL hb), nb pp rfl, (by omega), fun ts d H' e1 e2 e3 e4 bb nd hd T' => q _ _ H' (came_lstB t bb T' nd hd (dp_texts ts) (pd_mem fun z m => pd_name (e4 z m))) (hq ts e1 e2 e3 e4)⟩
end
end K10
namespace K10
open PySem PySem.Spec PyProof.Rows L2 Tq
section
variable {P : Program} {w : World} {K : PySem.W.Frag} {mg : Str → Option Value} {base : Heap} [Mx.Tb] [Mx.Bs base mg]
def spText (K : PySem.W.Frag) : Sp := fun vs H Q _ => ∃ (t a : Addr), vs = [.ref t] ∧ Tape H t a ∧ ∀ (z : Str) (H' : Hp), IsText z → Tape H' t a → But t H H' → Q (.str z) H'
def marks : Str := " !#$&'()*+,-./0123456789:;<=>?@ABCDEFGHIJKLMNOPQRSTUVWXYZ[\\]^_`abcdefghijklmnopqrstuvwxyz{|}~"
theorem marks_ok : ∀ c ∈ marks.cps.toList, 32 ≤ c ∧ c ≤ 126 ∧ c ≠ 34 ∧ c ≠ 37 := by decide +kernel
theorem marks_len : marks.cps.toList.length = 93 := by decide +kernel
def twelve : List Str := ["", "v1", "v2", "v3", "c1", "c2", " ", "null", "v01", "V1", "v10", "x"]
theorem twelve_ok : ∀ z ∈ twelve, z.length ≤ 12 ∧ ∀ c ∈ z.cps.toList, 32 ≤ c ∧ c ≤ 126 ∧ c ≠ 34 ∧ c ≠ 37 := by decide +kernel

theorem ok_law_text (D : Ds K mg) (T : Txt mg) : FnOk P w K mg base CX0 2 D.law_text.f D.law_text.fd ["tape"] (spText K) := by
  have sc := sc_law_text
  refine D.law_text.F.ok sc (fun vs H Q E h => ?_) (fun cdv A outer s H vs Q E hr h => ?_)
  · obtain ⟨t, a, rfl, _⟩ := h
    rfl
  · obtain ⟨t, a, rfl, hT, q⟩ := h
    refine ⟨_, (pss_cons (ps_set (i := 1) sc.nd rfl (Or.inl rfl) pe_str)
    (pss_cons (ps_set (i := 2) sc.nd rfl (Or.inl rfl) (pe_call (ok_law_draw (base := base) D T) hr (by rfl) D.law_draw.g D.law_draw.F.kp D.law_draw.b .nil pass0 (pa_cons (pv 0) (pa_cons pe_int pa_nil))))
    (pss_cons (ps_if (pt_cmpR o_lt (pv 2) pe_int (nomark _)) (pss_one (ps_ret (pe_ix (k_ixL (K := K) rfl) (pe_lst (pa_cons pe_str (pa_cons pe_str (pa_cons pe_str (pa_cons pe_str (pa_cons pe_str (pa_cons pe_str (pa_cons pe_str (pa_cons pe_str (pa_cons pe_str (pa_cons pe_str (pa_cons pe_str (pa_cons pe_str pa_nil))))))))))))) (pv 2) (fun _ _ => rfl)))) pss_nil)
    (pss_cons (ps_set (i := 3) sc.nd rfl (Or.inl rfl) (pe_call (ok_law_draw (base := base) D T) hr (by rfl) D.law_draw.g D.law_draw.F.kp D.law_draw.b .nil pass0 (pa_cons (pv 0) (pa_cons (pe_op o_mul (pe_op o_mul pe_int pe_int) pe_int) pa_nil))))
    (pss_cons (ps_set (i := 4) sc.nd rfl (Or.inl rfl) (pe_op o_add pe_int (pe_op o_mod (pe_callTy c_int (by rfl) T.b_int (by decide +kernel) (pa_cons (pv 3) pa_nil)) pe_int)))
    (pss_cons (ps_set (i := 5) sc.nd rfl (Or.inl rfl) (pe_op o_mod (pe_callTy c_int (by rfl) T.b_int (by decide +kernel) (pa_cons (pe_op o_div (pv 3) pe_int) pa_nil)) (pv 4)))
    (pss_cons (ps_set (i := 6) sc.nd rfl (Or.inl rfl) (pe_ix ix_str (pv 1) (pe_op o_mod (pe_callTy c_int (by rfl) T.b_int (by decide +kernel) (pa_cons (pe_op o_div (pv 3) pe_int) pa_nil)) pe_int) (fun _ _ => rfl)))
    (pss_one (ps_ret (pe_op o_addS (pe_op o_addS (pe_op op_mulS (pv 6) (pv 5)) (pe_ix ix_str (pv 1) (pe_op o_mod (pe_callTy c_int (by rfl) T.b_int (by decide +kernel) (pa_cons (pe_op o_div (pv 3) pe_int) pa_nil)) pe_int) (fun _ _ => rfl))) (pe_op op_mulS (pv 6) (pe_op o_sub (pe_op o_sub (pv 4) (pv 5)) pe_int)))))))))))), ?_⟩
    walk_at "go"
    refine ⟨t, a, 24, rfl, hT, by decide, fun n H1 n0 n1 T1 B1 => ?_⟩
    walk_at "go"
    refine l_if (fun c1 => ?_) (fun c1 => ?_)
    · walk_at "go"
      refine ⟨by decide, fun p np => ?_⟩
      obtain ⟨z, hz, hz2⟩ := atI_map (f := V.str) (xs := twelve) n0 c1
      have pt := T1.ne np
      refine l_var rfl ?_
      refine l_ixL (sqL upd_same) hz ?_
      show Q _ _
      have o := twelve_ok z (List.mem_of_getElem? hz2)
      exact q z _ ⟨o.1, o.2⟩ (T1.put pt.1 pt.2) (B1.trans (Same.but (new_same np)))
    · walk_at "go"
      refine ⟨t, a, _, rfl, T1, by decide, fun n2 H2 m0 m1 T2 B2 => ?_⟩
      have L := fmod_lt m0 (show (0 : Int) < 12 by decide)
      have P := fmod_lt (fdiv_nn m0 (show (0 : Int) < 12 by decide)) (show (0 : Int) < 1 + n2.fmod 12 by omega)
      have ml : marks.length ≤ sizeLine := by decide
      have i1 := fmod_lt (fdiv_nn m0 (show (0 : Int) < 144 by decide)) (show (0 : Int) < 93 by decide)
      have i2 := fmod_lt (fdiv_nn m0 (show (0 : Int) < 13392 by decide)) (show (0 : Int) < 93 by decide)
      obtain ⟨x1, hx1, hm1⟩ := atI_some (xs := marks.cps.toList) i1.1 (by rw [marks_len]; exact i1.2)
      obtain ⟨x2, hx2, hm2⟩ := atI_some (xs := marks.cps.toList) i2.1 (by rw [marks_len]; exact i2.2)
      have o1 := marks_ok x1 (List.mem_of_getElem? hm1)
      have o2 := marks_ok x2 (List.mem_of_getElem? hm2)
      walk_at "go"
      have e1 := mul1_len x1 ((n2.fdiv 12).fmod (1 + n2.fmod 12))
      have e2 := mul1_len x1 (1 + n2.fmod 12 - (n2.fdiv 12).fmod (1 + n2.fmod 12) - 1)
      refine l_addS (fits (by rw [e1, one_len]; omega)) ?_
      walk_at "go"
      refine l_addS (fits (by rw [app_len, e1, e2, one_len]; omega)) ?_
      show Q _ _
      refine q _ _ ⟨by rw [app_len, app_len, e1, e2, one_len]; omega, fun c hc => ?_⟩ T2 (B1.trans B2)
      rw [app_list, app_list, mul1_list, mul1_list, List.mem_append, List.mem_append] at hc
      rcases hc with (hc | hc) | hc
      · rw [List.eq_of_mem_replicate hc]; exact o1
      · rw [List.mem_singleton.mp hc]; exact o2
      · rw [List.eq_of_mem_replicate hc]; exact o1

open Mx in
theorem om_law_text (D : Ds K mg) (T : Txt mg) : FnOk P w K mg base CX0 2 D.law_text.f D.law_text.fd ["tape"] (spM w K 1 (fText)) := by
  refine imp_m (ok_law_text (base := base) D T) fun T0 H vs dvs Qm Q E t p m q => ?_
  obtain ⟨rfl, hq⟩ := m
  obtain ⟨v, rfl, h1⟩ := p1 p
  obtain ⟨pp, hpp, rfl⟩ := h1
  obtain rfl : T0 = some pp := hpp
  exact ⟨pp.1, pp.2, rfl, t.1 pp rfl, fun z H' hz T' B' => q _ _ H' (came_but t B' T' (.str z) (pd_text hz)) (hq z hz)⟩
end
end K10
namespace K10
open PySem PySem.Spec PyProof.Rows L2 Tq
section
variable {P : Program} {w : World} {K : PySem.W.Frag} {mg : Str → Option Value} {base : Heap} [Mx.Tb] [Mx.Bs base mg]
def spTexts (K : PySem.W.Frag) : Sp := fun vs H Q _ => ∃ (t a : Addr) (m : Int) (p0 : Addr) (tk : List Str), vs = [.ref t, .int m, .ref p0] ∧ Tape H t a ∧ 0 ≤ m ∧ m ≤ 40 ∧ Sq K H p0 (tk.map V.str) ∧ p0 ≠ t ∧ tk.length ≤ 400 ∧
  ∀ (ts : List Str) (d : Addr) (H' : Hp), ts.length = m.toNat → ts.Nodup → (∀ z ∈ ts, z ∉ tk) → (∀ z ∈ ts, IsText z) → But t H H' → H d = none → H' d = some (.lst (ts.map V.str)) → Tape H' t a → Q (.ref d) H'

theorem ok_law_texts (D : Ds K mg) (T : Txt mg) : FnOk P w K mg base CX0 3 D.law_texts.f D.law_texts.fd ["tape", "many", "taken"] (spTexts K) := by
  have sc := sc_law_texts
  refine D.law_texts.F.ok sc (fun vs H Q E h => ?_) (fun cdv A outer s H vs Q E hr h => ?_)
  · obtain ⟨t, a, m, p0, tk, rfl, _⟩ := h
    rfl
  · obtain ⟨t, a, m, p0, tk, rfl, hT, m0, m1, hq0, pt, tl, q⟩ := h
    refine ⟨_, (pss_cons (ps_set (i := 3) sc.nd rfl (Or.inl rfl) (pe_lst pa_nil))
    (pss_cons (ps_for PassesOwn.never rfl (pi_range1 (by rfl) T.b_range (pa_cons (pv 1) pa_nil)) (pg_name (i := 4) sc.nd rfl (Or.inl rfl)) (pss_cons (ps_set (i := 5) sc.nd rfl (Or.inl rfl) (pe_call (ok_law_text (base := base) D T) hr (by rfl) D.law_text.g D.law_text.F.kp D.law_text.b .nil pass0 (pa_cons (pv 0) pa_nil)))
    (pss_cons (ps_for PassesOwn.never rfl (pi_range1 (by rfl) T.b_range (pa_cons (pe_op o_add (pe_op o_add (pe_callB (k_len (K := K) rfl) (by rfl) T.b_len PySem.boot_len (pa_cons (pv 3) pa_nil)) (pe_callB (k_len (K := K) rfl) (by rfl) T.b_len PySem.boot_len (pa_cons (pv 2) pa_nil))) pe_int) pa_nil)) (pg_name (i := 6) sc.nd rfl (Or.inl rfl)) (pss_cons (ps_if (PW.pt (pw_and (pt_cmpR (k_notIn (K := K) rfl) (pv 5) (pv 3) (by rfl)) (pw_and1 (pt_cmpR (k_notIn (K := K) rfl) (pv 5) (pv 2) (by rfl))))) (pss_one ps_break) pss_nil)
    (pss_one (ps_set (i := 5) sc.nd rfl (Or.inl rfl) (pe_op o_addS pe_str (pe_callTy c_str (by rfl) T.b_str (by decide +kernel) (pa_cons (pv 6) pa_nil)))))))
    (pss_one (ps_expr (pe_bm PySem.F.plainAttrs_list PySem.F.slot_list_append PySem.F.type_list_append mt_append (pv 3) (pa_cons (pv 5) pa_nil)))))))
    (pss_one (ps_ret (pv 3))))), ?_⟩
    walk_at "go"
    refine ⟨Nat.zero_le _, fun d nd => ?_⟩
    walk_at "go"
    have dt := hT.ne nd
    have nmx : m.toNat ≤ 40 := by omega
    refine ⟨m, rfl, by omega, by omega, for_range (fun i σ H' => ∃ (ts : List Str) (y1 y2 y3 : Option V), σ = [some (.ref t), some (.int m), some (.ref p0), some (.ref d), y1, y2, y3] ∧ ts.length = i ∧ ts.Nodup ∧ (∀ z ∈ ts, z ∉ tk) ∧ (∀ z ∈ ts, IsText z) ∧
      H' d = some (.lst (ts.map V.str)) ∧ Tape H' t a ∧ But t H H') ⟨[], none, none, none, rfl, rfl, List.nodup_nil, by simp, by simp, upd_same, hT.put dt.1 dt.2, But.new (But.refl t H) nd⟩ ?_ ?_⟩
    · rintro i σ H1 hi ⟨ts, y1, y2, y3, rfl, el, nd1, nk, tx, hd, T1, B1⟩
      walk_at "go"
      refine ⟨t, a, rfl, T1, fun z H2 zt T2 B2 => ?_⟩
      have hd2 := B2 d _ dt.1 hd
      have B12 := B1.trans B2
      have hp2 := hq0.but B12 pt
      have lm1 : (ts.map V.str).length = ts.length := List.length_map ..
      have lm2 : (tk.map V.str).length = tk.length := List.length_map ..
      refine l_gname ?_
      with_reducible refine' l_cut (fun σ' H' => ∃ (u : Str) (y1 y2 : Option V), σ' = [some (.ref t), some (.int m), some (.ref p0), some (.ref d), y1, some (.str u), y2] ∧ IsText u ∧ u ∉ ts ∧ u ∉ tk ∧ H' = H2) (fun N hN => ?_) ?_
      · walk_at "go"
        refine l_lenX hp2 ?_
        walk_at "go"
        refine ⟨_, rfl, by rw [lm1, lm2]; omega, by rw [lm1, lm2]; omega, ?_⟩
        rw [lm1, lm2, show ((ts.length : Int) + (tk.length : Int) + 3).toNat = ts.length + tk.length + 3 by omega]
        refine for_range (fun j σ H' => ∃ (u : Str) (y1 y2 : Option V), σ = [some (.ref t), some (.int m), some (.ref p0), some (.ref d), y1, some (.str u), y2] ∧ IsText u ∧ (∀ k, k + 1 = j → u = nm "t" k) ∧ (∀ k, k + 1 < j → nm "t" k ∈ ts ++ tk) ∧ H' = H2)
          ⟨z, _, _, rfl, zt, fun k e => (nomatch e), fun k e => (nomatch e), rfl⟩ ?_ ?_
        · rintro j σ H3 hj ⟨u, y1, y2, rfl, ut, ue, uh, rfl⟩
          walk_at "go"
          refine l_in (.inl (sqL hd2)) ?_
          walk_at "go"
          -- the next text
          have nxt : (u ∈ ts ∨ u ∈ tk) → ∃ (w : Str) (y1 y2 : Option V), [some (V.ref t), some (V.int m), some (V.ref p0), some (V.ref d), y1, some (V.str (nm "t" j)), y2] = [some (.ref t), some (.int m), some (.ref p0), some (.ref d), y1, some (.str w), y2] ∧ IsText w ∧ (∀ k, k + 1 = j + 1 → w = nm "t" k) ∧ (∀ k, k + 1 < j + 1 → nm "t" k ∈ ts ++ tk) ∧ H3 = H3 := by
            intro hu
            refine ⟨nm "t" j, y1, y2, rfl, ?_, fun k e => by rw [show k = j by omega], fun k e => ?_, rfl⟩
            · have ln := nm_len (z := "t") (show j < 100000 by omega)
              refine ⟨Nat.le_trans ln (by decide), fun c hc => ?_⟩
              unfold nm at hc
              rw [app_list, List.mem_append] at hc
              rcases hc with hc | hc
              · have : ∀ c ∈ (Str.ofString "t").cps.toList, c = 116 := by decide +kernel
                have := this c hc
                omega
              · have := numS_ok _ c hc
                omega
            · by_cases e2 : k + 1 < j
              · exact uh k e2
              · rw [← ue k (by omega)]
                exact List.mem_append.mpr hu
          have k1 : (0 + (j : Int)) = (j : Int) := by omega
          have ln : (Str.ofString (toString (j : Int))).length ≤ 5 := numS_len (k := j) (by omega)
          have t1 : (Str.ofString "t").length = 1 := rfl
          refine l_ifN (fun c1 => ?_) (fun c1 => ?_)
          · walk_at "go"
            refine l_in hp2 ?_
            walk_at "go"
            refine l_ifN (fun c2 => ?_) (fun c2 => ?_)
            · show N _ _
              exact hN _ _ ⟨u, _, _, rfl, ut, c1, c2, rfl⟩
            · walk_at "go"
              rw [k1]
              refine l_str (log_small (by omega) (by omega)) ?_
              walk_at "go"
              refine l_addS (fits (by omega)) ?_
              walk_at "go"
              obtain ⟨w, z1, z2, e1, r1, r2, r3, r4⟩ := nxt (.inr c2)
              exact ⟨nm "t" j, _, _, rfl, by injections; simp_all, fun k e => by rw [show k = j by omega], r3, rfl⟩
          · walk_at "go"
            rw [k1]
            refine l_str (log_small (by omega) (by omega)) ?_
            walk_at "go"
            refine l_addS (fits (by omega)) ?_
            walk_at "go"
            obtain ⟨w, z1, z2, e1, r1, r2, r3, r4⟩ := nxt (.inl c1)
            exact ⟨nm "t" j, _, _, rfl, by injections; simp_all, fun k e => by rw [show k = j by omega], r3, rfl⟩
        · rintro σ H3 ⟨u, y1, y2, rfl, ut, ue, uh, rfl⟩
          exact absurd (few_names uh) (by omega)
      · rintro σ H3 ⟨u, y1, y2, rfl, ut, u1, u2, rfl⟩
        have room : (ts.map V.str).length < sizeLine := fits_lt (by omega)
        walk_at "go"
        refine ⟨ts ++ [u], _, _, _, rfl, by rw [List.length_append, List.length_singleton, el], ?_, ?_, ?_, by rw [upd_same, List.map_append]; rfl, T2.put dt.1 dt.2, ?_⟩
        · rw [List.nodup_append]
          exact ⟨nd1, by simp, fun y hy w hw e => u1 (by rw [List.mem_singleton.mp hw] at e; exact e ▸ hy)⟩
        · intro y hy
          rcases List.mem_append.mp hy with hy | hy
          · exact nk y hy
          · rw [List.mem_singleton.mp hy]; exact u2
        · intro y hy
          rcases List.mem_append.mp hy with hy | hy
          · exact tx y hy
          · rw [List.mem_singleton.mp hy]; exact ut
        · intro b o nb hb
          rw [upd_ne (ne_of_none hb nd)]
          exact B12 b o nb hb
    · rintro σ H1 ⟨ts, y1, y2, y3, rfl, el, nd1, nk, tx, hd, T1, B1⟩
      walk_at "go"
      show Q _ _
      exact q ts d H1 (by omega) nd1 nk tx B1 nd hd T1

open Mx in
theorem om_law_texts (D : Ds K mg) (T : Txt mg) : FnOk P w K mg base CX0 3 D.law_texts.f D.law_texts.fd ["tape", "many", "taken"] (spM w K 3 (fTexts)) := by
  refine imp_m (ok_law_texts (base := base) D T) fun T0 H vs dvs Qm Q E t p m q => ?_
  obtain ⟨m, tk, rfl, m0, m1, tl, hq⟩ := m
  obtain ⟨v, u, r, rfl, h1, h2, h3⟩ := p3 p
  obtain ⟨pp, hpp, rfl⟩ := h1
  obtain rfl : T0 = some pp := hpp
  obtain ⟨b, us, rfl, hb, hs, _, nb⟩ := h3
  obtain ⟨e1, _⟩ := strs_of hs (strsOf_map tk)
  subst e1
  rw [dp_int h2.1]
  refine ⟨pp.1, pp.2, m, b, tk, rfl, t.1 pp rfl, m0, m1, .inl (sqL hb), nb pp rfl, (by omega), fun ts d H' e1 e2 e3 e4 bb nd hd T' => q _ _ H' (came_lstB t bb T' nd hd (dp_texts ts) (pd_mem fun z m => pd_text (e4 z m))) (hq ts e1 e2 e3 e4)⟩
end
end K10
namespace K10
open PySem PySem.Spec PyProof.Rows L2 Tq
section
variable {P : Program} {w : World} {K : PySem.W.Frag} {mg : Str → Option Value} {base : Heap} [Mx.Tb] [Mx.Bs base mg]
def spMany (K : PySem.W.Frag) : Sp := fun vs H Q _ => ∃ (p0 : Addr) (xs : List V) (Ts : List Tab) (m : Int), vs = [.ref p0, .int m] ∧ Sq K H p0 xs ∧ TabsAt K H xs Ts ∧ (∀ t ∈ Ts, ∀ c ∈ t.cols, c.Ok) ∧ colN Ts ≤ 1000 ∧ 0 ≤ m ∧ m ≤ 1000000 ∧
  ∀ (n : Int) (H' : Hp), Same H H' → Q (.int n) H'

theorem ok_law_many (D : Ds K mg) (T : Txt mg) : FnOk P w K mg base CX0 1 D.law_many.f D.law_many.fd ["tables", "many"] (spMany K) := by
  have sc := sc_law_many
  refine D.law_many.F.ok sc (fun vs H Q E h => ?_) (fun cdv A outer s H vs Q E hr h => ?_)
  · obtain ⟨p0, xs, Ts, m, rfl, _⟩ := h
    rfl
  · obtain ⟨p0, xs, Ts, m, rfl, hS, hT, ok, few, m0, m1, q⟩ := h
    refine ⟨_, (pss_cons (ps_set (i := 2) sc.nd rfl (Or.inl rfl) (pe_lst (pa_cons pe_int pa_nil)))
    (pss_cons (ps_for PassesOwn.never rfl (k_piLT (K := K) rfl (pv 0)) (pg_name (i := 3) sc.nd rfl (Or.inl rfl)) (pss_cons (ps_set (i := 4) sc.nd rfl (Or.inl rfl) (pe_callTy (k_list (K := K) rfl) (by rfl) T.b_list (by decide +kernel) (pa_cons (pv 2) pa_nil)))
    (pss_cons (ps_for PassesOwn.never rfl (k_piLT (K := K) rfl (pe_ix (k_ixT (K := K) rfl) (pv 3) pe_int (fun _ _ => rfl))) (pg_name (i := 5) sc.nd rfl (Or.inr rfl)) (pss_cons (ps_set (i := 6) sc.nd rfl (Or.inr rfl) (pe_callTy c_intB (by rfl) T.b_int (by decide +kernel) (pa_cons (pe_ix (k_ixT (K := K) rfl) (pv 5) pe_int (fun _ _ => rfl)) pa_nil)))
    (pss_one (ps_if (pt_cmpR (k_eqD (K := K) rfl hr.units) (pe_ix (k_ixT (K := K) rfl) (pv 5) pe_int (fun _ _ => rfl)) pe_str (nomark _)) (pss_cons (ps_set (i := 7) sc.nd rfl (Or.inl rfl) (pe_lst pa_nil))
    (pss_cons (ps_for PassesOwn.never rfl (pi_range1 (by rfl) T.b_range (pa_cons (pe_op o_add (pe_callB (k_len (K := K) rfl) (by rfl) T.b_len PySem.boot_len (pa_cons (pv 4) pa_nil)) pe_int) pa_nil)) (pg_name (i := 8) sc.nd rfl (Or.inl rfl)) (pss_cons (ps_set (i := 9) sc.nd rfl (Or.inl rfl) pe_int)
    (pss_cons (ps_if (pt_cmpR o_lt (pv 8) (pe_callB (k_len (K := K) rfl) (by rfl) T.b_len PySem.boot_len (pa_cons (pv 4) pa_nil)) (nomark _)) (pss_one (ps_set (i := 9) sc.nd rfl (Or.inl rfl) (pe_op o_mul (pe_op o_add (pe_op o_add (pv 1) (pv 8)) (pv 6)) (pe_ix (k_ixL (K := K) rfl) (pv 4) (pv 8) (fun _ _ => rfl))))) pss_nil)
    (pss_cons (ps_if (pt_cmpR o_gt (pv 8) pe_int (nomark _)) (pss_one (ps_set (i := 9) sc.nd rfl (Or.inl rfl) (pe_op o_add (pv 9) (pe_ix (k_ixL (K := K) rfl) (pv 4) (pe_op o_sub (pv 8) pe_int) (fun _ _ => rfl))))) pss_nil)
    (pss_one (ps_expr (pe_bm PySem.F.plainAttrs_list PySem.F.slot_list_append PySem.F.type_list_append mt_append (pv 7) (pa_cons (pv 9) pa_nil))))))))
    (pss_one (ps_set (i := 4) sc.nd rfl (Or.inl rfl) (pv 7))))) (pss_one (ps_setLc (i := 4) (own := [("number", 9)]) rfl sc.nd rfl rfl (sw_true rfl rfl rfl (by decide +kernel)) (k_piL (K := K) rfl (pv 4)) (blkOk_by (N := ["tables", "many", "ways", "table", "after", "column", "extra", "longer", "j", "number"]) (sc := defScope s_law_many) (by decide +kernel)) (fun _ _ _ _ _ => (pg_name (i := 9) sc.nd rfl (Or.inl rfl))) (fun _ _ _ _ _ => pts_nil) (fun _ _ _ _ _ => (pe_op o_mul (pv 9) (pe_op o_add (pe_callB (k_len (K := K) rfl) (by rfl) T.b_len PySem.boot_len (pa_cons (pe_ix (k_ixT (K := K) rfl) (pv 5) pe_int (fun _ _ => rfl)) pa_nil)) (pv 6))))))))))
    (pss_cons (ps_if (pt_val (pe_ix (k_ixT (K := K) rfl) (pv 3) pe_int (fun _ _ => rfl))) (pss_one (ps_for PassesOwn.never rfl (pi_range1 (by rfl) T.b_range (pa_cons (pe_callB (k_len (K := K) rfl) (by rfl) T.b_len PySem.boot_len (pa_cons (pv 2) pa_nil)) pa_nil)) (pg_name (i := 8) sc.nd rfl (Or.inl rfl)) (pss_one (ps_asg (pe_op o_add (pe_ix (k_ixL (K := K) rfl) (pv 4) (pv 8) (fun _ _ => rfl)) (pe_ix (k_ixL (K := K) rfl) (pv 2) (pv 8) (fun _ _ => rfl))) (pg_sub (pv 4) (pv 8) set_list))))) pss_nil)
    (pss_one (ps_set (i := 2) sc.nd rfl (Or.inl rfl) (pv 4)))))))
    (pss_one (ps_ret (pe_callB (c_sum (K := K) rfl rfl) (by rfl) T.b_sum (by decide +kernel) (pa_cons (pv 2) pa_nil)))))), ?_⟩
    walk_at "go"
    refine ⟨by decide, fun d nd => ?_⟩
    walk_at "go"
    have s1 := new_same (o := .lst [.int 1]) nd
    refine l_ltv rfl (hS.same s1) fun it hit => for_sq hit (fun i σ H' => ∃ (e : Addr) (ws : List Int) (y1 y2 y3 y4 y5 y6 y7 : Option V), σ = [some (.ref p0), some (.int m), some (.ref e), y1, y2, y3, y4, y5, y6, y7] ∧ H' e = some (.lst (ws.map V.int)) ∧ ws.length ≤ colN (Ts.take i) + 1 ∧ Same (upd H d (.lst [.int 1])) H' ∧ H e = none) ⟨d, [1], _, _, _, _, _, _, _, rfl, upd_same, Nat.le_add_left _ _, Same.refl _, nd⟩ (fun i σ' H' ⟨_, _, _, _, _, _, _, _, _, _, _, _, h, _⟩ => h) ?_ ?_
    · rintro i x σ H1 hx ⟨e, ws, y1, y2, y3, y4, y5, y6, y7, rfl, he, wl, S1, ne⟩
      obtain ⟨T, hT1, p, c, ys, rfl, h1, h2, h3⟩ := (hT.same (s1.trans S1)).2 i x hx
      have okT := ok T (List.mem_of_getElem? hT1)
      have cT := Nat.le_trans (colN_mem (List.mem_of_getElem? hT1)) few
      have a3 := colN_take Ts i
      walk_at "go"
      refine l_listL (sqL he) fun f nf => ?_
      walk_at "go"
      have s2 := new_same (o := .lst (ws.map V.int)) nf
      refine l_lti rfl (s2.seqT h1) rfl (h2.same s2) fun it hit => for_sq hit (fun j σ H' => ∃ (f' : Addr) (as : List Int) (z5 z6 z7 z8 z9 : Option V), σ = [some (.ref p0), some (.int m), some (.ref e), some (.ref p), some (.ref f'), z5, z6, z7, z8, z9] ∧ H' f' = some (.lst (as.map V.int)) ∧ ws.length ≤ as.length ∧ as.length ≤ ws.length + j ∧ Same (upd H1 f (.lst (ws.map V.int))) H' ∧ H1 f' = none)
        ⟨f, ws, _, _, _, _, _, rfl, upd_same, Nat.le_refl _, Nat.le_refl _, Same.refl _, nf⟩ (fun i σ' H' ⟨_, _, _, _, _, _, _, _, _, _, _, h, _⟩ => h) ?_ ?_
      · rintro j y σ H2 hy ⟨f', as, z5, z6, z7, z8, z9, rfl, hf', l1, l2, S2, nf'⟩
        obtain ⟨dc, hdc, hcl⟩ := h3.at hy
        rw [List.getElem?_map] at hdc
        obtain ⟨cl, hc0, rfl⟩ := Option.map_eq_some_iff.mp hdc
        have jl : j < T.cols.length := (List.getElem?_eq_some_iff.mp hc0).1
        have hcl2 := Dp.keep (TK.of_same (s2.trans S2)) _ _ (col_pu cl) hcl
        obtain ⟨pc, kv, rfl, hpc, hk⟩ := dp_col hcl2
        have okc := okT cl (List.mem_of_getElem? hc0)
        walk_at "go"
        obtain ⟨ex, hex, e0, e1⟩ : ∃ ex : Int, (if cl.nul = true then (1 : Int) else 0) = ex ∧ 0 ≤ ex ∧ ex ≤ 1 := by
          cases cl.nul
          · exact ⟨0, rfl, by decide, by decide⟩
          · exact ⟨1, rfl, by decide, by decide⟩
        rw [hex]
        refine l_eqText hk okc ?_
        walk_at "go"
        refine l_if2 (fun c0 => ?_) (fun c0 => ?_)
        · walk_at "go"
          refine ⟨Nat.zero_le _, fun g ng => ?_⟩
          walk_at "go"
          have hf2 := new_same (o := .lst []) ng _ _ hf'
          have fg : f' ≠ g := ne_of_none hf' ng
          walk_at "go"
          rw [List.length_map]
          refine ⟨_, rfl, by omega, by omega, ?_⟩
          rw [show ((as.length : Int) + 1).toNat = as.length + 1 by omega]
          refine for_range (fun k σ H' => ∃ (ls : List Int) (u8 u9 : Option V), σ = [some (.ref p0), some (.int m), some (.ref e), some (.ref p), some (.ref f'), some (.ref pc), some (.int ex), some (.ref g), u8, u9] ∧ ls.length = k ∧ H' = upd H2 g (.lst (ls.map V.int))) ⟨[], _, _, rfl, rfl, rfl⟩ ?_ ?_
          · rintro k σ H3 hk1 ⟨ls, u8, u9, rfl, ll, rfl⟩
            have hf3 : (upd H2 g (.lst (ls.map V.int))) f' = some (.lst (as.map V.int)) := by rw [upd_ne fg]; exact hf'
            have hg3 : (upd H2 g (.lst (ls.map V.int))) g = some (.lst (ls.map V.int)) := upd_same
            have room : (ls.map V.int).length < sizeLine := fits_lt (by rw [List.length_map]; omega)
            have fin : ∀ n : Int, ∃ (ls' : List Int) (u8 u9 : Option V), [some (.ref p0), some (.int m), some (.ref e), some (.ref p), some (.ref f'), some (.ref pc), some (.int ex), some (.ref g), some (V.int (0 + (k : Int))), some (V.int n)] = [some (.ref p0), some (.int m), some (.ref e), some (.ref p), some (.ref f'), some (.ref pc), some (.int ex), some (.ref g), u8, u9] ∧ ls'.length = k + 1 ∧ upd (upd H2 g (.lst (ls.map V.int))) g (.lst (ls.map V.int ++ [V.int n])) = upd H2 g (.lst (ls'.map V.int)) := fun n => ⟨ls ++ [n], _, _, rfl, by rw [List.length_append, ll]; rfl, by rw [upd_upd, List.map_append]; rfl⟩
            walk_at "go"
            rw [List.length_map]
            refine l_if (fun c1 => ?_) (fun c1 => ?_)
            · obtain ⟨v, hv, _⟩ := atI_map (f := V.int) (xs := as) (i := 0 + (k : Int)) (by omega) c1
              walk_at "go"
              refine l_if (fun c2 => ?_) (fun c2 => ?_)
              · obtain ⟨v2, hv2, _⟩ := atI_map (f := V.int) (xs := as) (i := 0 + (k : Int) - 1) (by omega) (by omega)
                walk_at "go"
                exact fin _
              · walk_at "go"
                exact fin _
            · walk_at "go"
              refine l_if (fun c2 => ?_) (fun c2 => ?_)
              · obtain ⟨v2, hv2, _⟩ := atI_map (f := V.int) (xs := as) (i := 0 + (k : Int) - 1) (by omega) (by omega)
                walk_at "go"
                exact fin _
              · walk_at "go"
                exact fin _
          · rintro σ H3 ⟨ls, u8, u9, rfl, ll, rfl⟩
            walk_at "go"
            exact ⟨g, ls, _, _, _, _, _, rfl, upd_same, by omega, by omega, Same.put S2 (S2.free ng), (s2.trans S2).free ng⟩
        · obtain ⟨vs, hvs⟩ : ∃ vs, cl.kind = some vs := by
            unfold Col.isT at c0
            cases e : cl.kind with
            | none => rw [e] at c0; cases c0
            | some vs => exact ⟨vs, rfl⟩
          unfold Col.kd at hk
          rw [hvs] at hk
          obtain ⟨pk, ks, rfl, hpk, hka⟩ := dp_tup hk
          have vl := (okc.vals vs hvs).2.1
          have ek := hka.strs
          subst ek
          walk_at "go"
          refine ⟨f', rfl, ⟨_, sqL hf'⟩, fun g ng => lc_list (xs := as.map V.int) (fun k H' => ∃ bs : List Int, bs.length = k ∧ H' = upd H2 g (.lst (bs.map V.int))) ⟨[], rfl, rfl⟩ ?_ ?_ ?_⟩
          · rintro k H3 _ ⟨bs, _, rfl⟩
            exact sqL (new_same ng _ _ hf')
          · rintro k x H3 hx ⟨bs, bl, rfl⟩
            have kl : k < as.length := by have := (List.getElem?_eq_some_iff.mp hx).1; rwa [List.length_map] at this
            obtain ⟨n, hn, rfl⟩ : ∃ n, as[k]? = some n ∧ x = V.int n := by
              rw [List.getElem?_map] at hx
              obtain ⟨n, e, rfl⟩ := Option.map_eq_some_iff.mp hx
              exact ⟨n, e, rfl⟩
            have hp3 := (new_same (o := .lst (bs.map V.int)) ng).seqT hpc
            have hk3 := (new_same (o := .lst (bs.map V.int)) ng).seqT hpk
            have cm : CMul n ((vs.length : Int) + ex) := .inr ⟨by omega, by omega⟩
            walk_at "go"
            refine ⟨rfl, ?_⟩
            walk_at "go"
            rw [List.length_map]
            walk_at "go"
            exact ⟨_, upd_same, fits_lt (by rw [List.length_map]; omega), bs ++ [_], by rw [List.length_append, bl]; rfl, by rw [upd_upd, List.map_append]; rfl⟩
          · rintro H3 ⟨bs, bl, rfl⟩
            rw [List.length_map] at bl
            walk_at "go"
            exact ⟨g, bs, _, _, _, _, _, rfl, upd_same, by omega, by omega, Same.put S2 (S2.free ng), (s2.trans S2).free ng⟩
      · rintro σ H2 ⟨f', as, z5, z6, z7, z8, z9, rfl, hf', l1, l2, S2, nf'⟩
        walk_at "go"
        have h1' := (s2.trans S2).seqT h1
        have el : ys.length = T.cols.length := by rw [h3.len, List.length_map]
        have tk : colN (Ts.take (i + 1)) = colN (Ts.take i) + T.cols.length := by rw [List.take_add_one, hT1]; exact colN_snoc _ _
        have he2 : H2 e = some (.lst (ws.map V.int)) := (s2.trans S2) _ _ he
        have ef : e ≠ f' := ne_of_none he nf'
        walk_at "go"
        refine l_if2 (fun c1 => ?_) (fun c1 => ?_)
        · walk_at "go"
          rw [List.length_map]
          refine ⟨_, rfl, by omega, by omega, ?_⟩
          rw [show ((ws.length : Int)).toNat = ws.length by omega]
          refine for_range (fun k σ H' => ∃ (as2 : List Int) (u8 : Option V), σ = [some (.ref p0), some (.int m), some (.ref e), some (.ref p), some (.ref f'), z5, z6, z7, u8, z9] ∧ as2.length = as.length ∧ H' = upd H2 f' (.lst (as2.map V.int))) ⟨as, _, rfl, rfl, upd_self1 hf'⟩ ?_ ?_
          · rintro k σ H3 hk ⟨as2, u8, rfl, l3, rfl⟩
            have he3 : (upd H2 f' (.lst (as2.map V.int))) e = some (.lst (ws.map V.int)) := by rw [upd_ne ef]; exact he2
            have hf3 : (upd H2 f' (.lst (as2.map V.int))) f' = some (.lst (as2.map V.int)) := upd_same
            obtain ⟨v, hv, _⟩ := atI_map (f := V.int) (xs := as2) (i := 0 + (k : Int)) (by omega) (by omega)
            obtain ⟨v2, hv2, _⟩ := atI_map (f := V.int) (xs := ws) (i := 0 + (k : Int)) (by omega) (by omega)
            have ix : ixN (as2.map V.int).length (0 + (k : Int)) = some k := by
              rw [show 0 + (k : Int) = (k : Int) by omega]
              exact ixN_nat (by rw [List.length_map]; omega)
            walk_at "go"
            exact ⟨as2.set k (v + v2), _, rfl, by rw [List.length_set]; exact l3, by rw [upd_upd, List.map_set]⟩
          · rintro σ H3 ⟨as2, u8, rfl, l3, rfl⟩
            walk_at "go"
            exact ⟨f', as2, _, _, _, _, _, _, _, rfl, upd_same, by omega, Same.put (S1.trans (s2.trans S2)) (S1.free nf'), (s1.trans S1).free nf'⟩
        · walk_at "go"
          exact ⟨f', as, _, _, _, _, _, _, _, rfl, hf', by omega, S1.trans (s2.trans S2), (s1.trans S1).free nf'⟩
    · rintro σ H1 ⟨e, ws, y1, y2, y3, y4, y5, y6, y7, rfl, he, wl, S1, ne⟩
      walk_at "go"
      refine l_sum (sqL he) ?_
      walk_at "go"
      show Q _ _
      exact q _ H1 (s1.trans S1)
end
end K10
namespace K10
open PySem PySem.Spec PyProof.Rows L2 Tq
section
variable {P : Program} {w : World} {K : PySem.W.Frag} {mg : Str → Option Value} {base : Heap} [Mx.Tb] [Mx.Bs base mg]
def spTextual (K : PySem.W.Frag) : Sp := fun vs H Q _ => ∃ (p0 : Addr) (xs : List V) (Ts : List Tab), vs = [.ref p0] ∧ Sq K H p0 xs ∧ TabsAt K H xs Ts ∧ (∀ t ∈ Ts, ∀ c ∈ t.cols, c.Ok) ∧ colN Ts ≤ 1000 ∧
  ∀ (d : Addr) (zs : List V) (H' : Hp), Same H H' → H d = none → H' d = some (.lst zs) → zs.length = (textual Ts).length → Q (.ref d) H'

theorem ok_law_textual (D : Ds K mg) (T : Txt mg) : FnOk P w K mg base CX0 1 D.law_textual.f D.law_textual.fd ["tables"] (spTextual K) := by
  have sc := sc_law_textual
  refine D.law_textual.F.ok sc (fun vs H Q E h => ?_) (fun cdv A outer s H vs Q E hr h => ?_)
  · obtain ⟨p0, xs, Ts, rfl, _⟩ := h
    rfl
  · obtain ⟨p0, xs, Ts, rfl, hS, hT, ok, few, q⟩ := h
    refine ⟨_, (pss_cons (ps_set (i := 1) sc.nd rfl (Or.inl rfl) (pe_lst pa_nil))
    (pss_cons (ps_for PassesOwn.never rfl (k_piLT (K := K) rfl (pv 0)) (pg_name (i := 2) sc.nd rfl (Or.inr rfl)) (pss_one (ps_set (i := 1) sc.nd rfl (Or.inl rfl) (pe_op op_cat (pv 1) (pe_lc (own := [("column", 3)]) rfl sc.nd (k_piLT (K := K) rfl (pe_ix (k_ixT (K := K) rfl) (pv 2) pe_int (fun _ _ => rfl))) (blkOk_by (N := ["tables", "found", "table", "column"]) (sc := defScope s_law_textual) (by decide +kernel)) (fun _ _ _ _ _ => (pg_name (i := 3) sc.nd rfl (Or.inl rfl))) (fun _ _ _ _ _ => pts_one (pt_cmpR (k_eqD (K := K) rfl hr.units) (pe_ix (k_ixT (K := K) rfl) (pv 3) pe_int (fun _ _ => rfl)) pe_str (nomark _))) (fun _ _ _ _ _ => (pe_tup (pa_cons (pe_ix (k_ixT (K := K) rfl) (pv 2) pe_int (fun _ _ => rfl)) (pa_cons (pe_ix (k_ixT (K := K) rfl) (pv 3) pe_int (fun _ _ => rfl)) pa_nil)))))))))
    (pss_one (ps_ret (pv 1))))), ?_⟩
    walk_at "go"
    refine ⟨Nat.zero_le _, fun d nd => ?_⟩
    walk_at "go"
    have s1 := new_same (o := .lst []) nd
    refine l_ltv rfl (hS.same s1) fun it hit => for_sq hit (fun i σ H' => ∃ (e : Addr) (zs : List V) (y1 y2 : Option V), σ = [some (.ref p0), some (.ref e), y1, y2] ∧ H' e = some (.lst zs) ∧ zs.length = (textual (Ts.take i)).length ∧ Same (upd H d (.lst [])) H' ∧ H e = none) ⟨d, [], _, _, rfl, upd_same, rfl, Same.refl _, nd⟩ (fun i σ' H' ⟨_, _, _, _, _, _, _, h, _⟩ => h) ?_ ?_
    · rintro i x σ H1 hx ⟨e, zs, y1, y2, rfl, he, zl, S1, ne⟩
      obtain ⟨T, hT1, p, c, ys, rfl, h1, h2, h3⟩ := (hT.same (s1.trans S1)).2 i x hx
      have okT := ok T (List.mem_of_getElem? hT1)
      have cT := Nat.le_trans (colN_mem (List.mem_of_getElem? hT1)) few
      walk_at "go"
      refine l_lti rfl h1 rfl h2 fun it hit g ng => lc_sq hit (fun j H' => ∃ acc, H' g = some (.lst acc) ∧ acc.length = ((T.cols.take j).filter Col.isT).length ∧ Same H1 H') ⟨[], upd_same, rfl, new_same ng⟩ (fun i H' ⟨_, _, _, h⟩ => h) ?_ ?_
      · rintro j y H2 hy ⟨acc, hg, al, S2⟩
        obtain ⟨dc, hdc, hcl⟩ := h3.at hy
        rw [List.getElem?_map] at hdc
        obtain ⟨cl, hc0, rfl⟩ := Option.map_eq_some_iff.mp hdc
        have hcl2 := Dp.keep (TK.of_same S2) _ _ (col_pu cl) hcl
        obtain ⟨pc, kv, rfl, hpc, hk⟩ := dp_col hcl2
        have okc := okT cl (List.mem_of_getElem? hc0)
        walk_at "go"
        refine ⟨rfl, ?_⟩
        walk_at "go"
        refine l_eqText hk okc ?_
        have tk : (T.cols.take (j + 1)).filter Col.isT = (T.cols.take j).filter Col.isT ++ [cl].filter Col.isT := by rw [List.take_add_one, hc0, List.filter_append]; rfl
        have a1 := List.length_filter_le Col.isT (T.cols.take j)
        rw [List.length_take] at a1
        refine ⟨_, rfl, ?_⟩
        refine l_if2 (fun c1 => ?_) (fun c1 => ?_)
        · have h1' := S2.seqT h1
          walk_at "go"
          refine ⟨by show 2 ≤ sizeLine; decide, fun r nr => ?_⟩
          exact ⟨acc, new_same nr _ _ hg, fits_lt (by omega), _, upd_same, by rw [tk, List.length_append, List.length_append, al]; simp [c1], Same.put (S2.trans (new_same nr)) ng⟩
        · exact ⟨acc, hg, by rw [tk, al]; simp [c1], S2⟩
      · rintro H2 ⟨acc, hg, al, S2⟩
        have el : ys.length = T.cols.length := by rw [h3.len, List.length_map]
        rw [el, List.take_length] at al
        have a1 := List.length_filter_le Col.isT T.cols
        have a2 := textual_len (Ts.take i)
        have a3 := colN_take Ts i
        refine l_cat (S2 _ _ he) hg (fits (by omega)) fun r nr => ?_
        walk_at "go"
        exact ⟨r, _, _, _, rfl, upd_same, by rw [List.length_append, textual_take hT1, zl, al], (S1.trans S2).trans (new_same nr), (s1.trans (S1.trans S2)).free nr⟩
    · rintro σ H1 ⟨e, zs, y1, y2, rfl, he, zl, S1, ne⟩
      walk_at "go"
      show Q _ _
      exact q e zs H1 (s1.trans S1) ne he (by rw [zl, hT.1, List.take_length])
section
open Mx

theorem om_law_textual (D : Ds K mg) (T : Txt mg) : FnOk P w K mg base CX0 1 D.law_textual.f D.law_textual.fd ["tables"] (spM w K 1 (fTextual)) := by
  have sc := sc_law_textual
  refine D.law_textual.F.ok sc (fun vs H Q E h => h.1) (fun cdv A outer s H vs Q E hr h => ?_)
  refine ⟨_, (pss_cons (ps_set (i := 1) sc.nd rfl (Or.inl rfl) (pe_lst pa_nil))
    (pss_cons (ps_for PassesOwn.never rfl (k_piT (K := K) rfl (pv 0)) (pg_name (i := 2) sc.nd rfl (Or.inr rfl)) (pss_one (ps_set (i := 1) sc.nd rfl (Or.inl rfl) (pe_op op_cat (pv 1) (pe_lc (own := [("column", 3)]) rfl sc.nd (k_piT (K := K) rfl (pe_ix (k_ixT (K := K) rfl) (pv 2) pe_int (fun _ _ => rfl))) (blkOk_by (N := ["tables", "found", "table", "column"]) (sc := defScope s_law_textual) (by decide +kernel)) (fun _ _ _ _ _ => (pg_name (i := 3) sc.nd rfl (Or.inl rfl))) (fun _ _ _ _ _ => pts_one (pt_cmpR (k_eqD (K := K) rfl hr.units) (pe_ix (k_ixT (K := K) rfl) (pv 3) pe_int (fun _ _ => rfl)) pe_str (nomark _))) (fun _ _ _ _ _ => (pe_tup (pa_cons (pe_ix (k_ixT (K := K) rfl) (pv 2) pe_int (fun _ _ => rfl)) (pa_cons (pe_ix (k_ixT (K := K) rfl) (pv 3) pe_int (fun _ _ => rfl)) pa_nil)))))))))
    (pss_one (ps_ret (pv 1))))), ?_⟩
  refine' body_m h ?ds (by decide) ?hm
  case ds => exact (ds_seq (ds_set (de_lst da_nil))
    (ds_seq (ds_for di_varT dg_name (ds_set (de_op dr_cat (de_var 1) (de_lc (di_eT (de_op dr_ixT (de_var 2) de_int)) dg_name (dt_test (de_op dr_eqD (de_op dr_ixT (de_var 3) de_int) (de_str (by decide +kernel)))) (de_tup (da_cons (de_op dr_ixT (de_var 2) de_int) (da_cons (de_op dr_ixT (de_var 3) de_int) da_nil))) (by decide)))))
    ds_retV))
  case hm =>
    clear h hr
    intro dvs Qm hF
    obtain ⟨Ts, rfl, few, hq⟩ := hF
    try simp only [List.map_cons, List.map_nil, List.cons_append, List.nil_append, List.length_cons, List.length_nil, Nat.reduceAdd, Nat.reduceSub, List.replicate_succ, List.replicate_zero]
    walk_at "m"
    refine loop (l := Ts) (f := Tab.d) (fun k ε => ∃ (y2 y3 : Option DV), ε = [some (DV.d (tabsD Ts)), some (DV.l true true ((textual (Ts.take k)).map twoD)), y2, y3]) ⟨none, none, rfl⟩ ?_ ?_
    · rintro k T ε hT ⟨y2, y3, rfl⟩
      have mT := List.mem_of_getElem? hT
      have cT := colN_mem mT
      have tk : textual (Ts.take (k + 1)) = textual (Ts.take k) ++ (T.cols.filter Col.isT).map fun c => (T.name, c.name) := by
        rw [List.take_add_one, hT]; unfold textual; simp
      have tl := textual_len (Ts.take k)
      have tk2 := colN_take Ts k
      walk_at "m"
      refine lc_fm (l := T.cols) (f := Col.d) Col.isT (fun c => .tuple [.str T.name, .str c.name]) (by omega) (fun c hc P N hP hN => ?_) ?_
      · walk_at "m"
        refine ⟨kd_depth c, by decide, ?_⟩
        walk_at "m"
        rw [eqv_text]
        refine cndB (fun e => ?_) (fun e => hN e)
        walk_at "m"
        exact hP e
      · walk_at "m"
        have fl2 := List.length_filter_le Col.isT T.cols
        refine ⟨fits (by rw [List.length_map, List.length_map]; omega), ?_⟩
        walk_at "m"
        exact ⟨_, _, by rw [tk, List.map_append, List.map_map]; rfl⟩
    · rintro ε ⟨y2, y3, rfl⟩
      walk_at "m"
      rw [List.take_of_length_le (Nat.le_refl _)]
      exact hq
end
end
end K10
namespace K10
open PySem PySem.Spec PyProof.Rows L2 Tq
section
variable {P : Program} {w : World} {K : PySem.W.Frag} {mg : Str → Option Value} {base : Heap} [Mx.Tb] [Mx.Bs base mg]
def spTables (K : PySem.W.Frag) : Sp := fun vs H Q _ => ∃ (t a : Addr) (mo m wd : Int), vs = [.ref t, .int mo, .int m, .int wd] ∧ Tape H t a ∧ 0 ≤ m ∧ m ≤ 1000000 ∧
  ∀ (Ts : List Tab) (p : Addr) (xs : List V) (H' : Hp), TabsOk Ts → But t H H' → H p = none → H' p = some (.tup xs) → DpAll K H' xs (Ts.map Tab.d) → Tape H' t a → Q (.ref p) H'

theorem ok_law_tables (D : Ds K mg) (T : Txt mg) : FnOk P w K mg base CX0 3 D.law_tables.f D.law_tables.fd ["tape", "most", "many", "width"] (spTables K) := by
  have sc := sc_law_tables
  refine D.law_tables.F.ok sc (fun vs H Q E h => ?_) (fun cdv A outer s H vs Q E hr h => ?_)
  · obtain ⟨t, a, mo, m, wd, rfl, _⟩ := h
    rfl
  · obtain ⟨t, a, mo, m, wd, rfl, hT, m0, m1, q⟩ := h
    refine ⟨_, (pss_cons (ps_set (i := 4) sc.nd rfl (Or.inl rfl) (pe_lst pa_nil))
    (pss_cons (ps_for PassesOwn.never rfl (k_piL (K := K) rfl (pe_call (ok_law_words (base := base) D T) hr (by rfl) D.law_words.g D.law_words.F.kp D.law_words.b .nil pass0 (pa_cons (pv 0) (pa_cons (pe_ix (k_ixL (K := K) rfl) (pe_lst (pa_cons pe_int (pa_cons pe_int (pa_cons pe_int (pa_cons pe_int (pa_cons pe_int (pa_cons pe_int pa_nil))))))) (pe_call (ok_law_draw (base := base) D T) (hr.mono (by decide)) (by rfl) D.law_draw.g D.law_draw.F.kp D.law_draw.b .nil pass0 (pa_cons (pv 0) (pa_cons pe_int pa_nil))) (fun _ _ => rfl)) (pa_cons (pe_lst pa_nil) pa_nil))))) (pg_name (i := 5) sc.nd rfl (Or.inl rfl)) (pss_cons (ps_set (i := 6) sc.nd rfl (Or.inl rfl) (pe_cmpR op_eq (pe_call (ok_law_draw (base := base) D T) (hr.mono (by decide)) (by rfl) D.law_draw.g D.law_draw.F.kp D.law_draw.b .nil pass0 (pa_cons (pv 0) (pa_cons pe_int pa_nil))) pe_int (nomark _)))
    (pss_cons (ps_set (i := 7) sc.nd rfl (Or.inl rfl) (pe_lst pa_nil))
    (pss_cons (ps_for PassesOwn.never rfl (k_piL (K := K) rfl (pe_call (ok_law_words (base := base) D T) hr (by rfl) D.law_words.g D.law_words.F.kp D.law_words.b .nil pass0 (pa_cons (pv 0) (pa_cons (pe_ix (k_ixL (K := K) rfl) (pe_lst (pa_cons pe_int (pa_cons pe_int (pa_cons pe_int (pa_cons pe_int (pa_cons pe_int (pa_cons pe_int pa_nil))))))) (pe_call (ok_law_draw (base := base) D T) (hr.mono (by decide)) (by rfl) D.law_draw.g D.law_draw.F.kp D.law_draw.b .nil pass0 (pa_cons (pv 0) (pa_cons pe_int pa_nil))) (fun _ _ => rfl)) (pa_cons (pe_lst pa_nil) pa_nil))))) (pg_name (i := 8) sc.nd rfl (Or.inl rfl)) (pss_cons (ps_set (i := 9) sc.nd rfl (Or.inl rfl) pe_str)
    (pss_cons (ps_if (PW.pt (pw_or (pt_cmpR o_lt (pe_call (ok_law_draw (base := base) D T) (hr.mono (by decide)) (by rfl) D.law_draw.g D.law_draw.F.kp D.law_draw.b .nil pass0 (pa_cons (pv 0) (pa_cons pe_int pa_nil))) pe_int (nomark _)) (pw_or1 (pt_cmpR o_ge (pe_callB (k_len (K := K) rfl) (by rfl) T.b_len PySem.boot_len (pa_cons (pe_call (ok_law_textual (base := base) D T) (hr.mono (by decide)) (by rfl) D.law_textual.g D.law_textual.F.kp D.law_textual.b .nil pass0 (pa_cons (pe_op op_cat (pv 4) (pe_lst (pa_cons (pe_tup (pa_cons (pv 5) (pa_cons (pv 6) (pa_cons (pv 7) pa_nil)))) pa_nil))) pa_nil)) pa_nil)) (pv 3) (nomark _))))) (pss_one (ps_set (i := 9) sc.nd rfl (Or.inl rfl) (pe_callTy (k_tuple (K := K) rfl) (by rfl) T.b_tuple (by decide +kernel) (pa_cons (pe_call (ok_law_words (base := base) D T) hr (by rfl) D.law_words.g D.law_words.F.kp D.law_words.b .nil pass0 (pa_cons (pv 0) (pa_cons (pe_ix (k_ixL (K := K) rfl) (pe_lst (pa_cons pe_int (pa_cons pe_int (pa_cons pe_int (pa_cons pe_int (pa_cons pe_int (pa_cons pe_int (pa_cons pe_int (pa_cons pe_int pa_nil))))))))) (pe_call (ok_law_draw (base := base) D T) (hr.mono (by decide)) (by rfl) D.law_draw.g D.law_draw.F.kp D.law_draw.b .nil pass0 (pa_cons (pv 0) (pa_cons pe_int pa_nil))) (fun _ _ => rfl)) (pa_cons (pe_lst pa_nil) pa_nil)))) pa_nil)))) pss_nil)
    (pss_cons (ps_set (i := 10) sc.nd rfl (Or.inl rfl) (pe_tup (pa_cons (pv 8) (pa_cons (pv 9) (pa_cons (pe_cmpR op_eq (pe_call (ok_law_draw (base := base) D T) (hr.mono (by decide)) (by rfl) D.law_draw.g D.law_draw.F.kp D.law_draw.b .nil pass0 (pa_cons (pv 0) (pa_cons pe_int pa_nil))) pe_int (nomark _)) pa_nil)))))
    (pss_cons (ps_set (i := 11) sc.nd rfl (Or.inl rfl) (pe_op o_add (pe_callB (c_sum (K := K) rfl rfl) (by rfl) T.b_sum (by decide +kernel) (pa_cons (pe_lc (own := [("table", 12)]) rfl sc.nd (k_piL (K := K) rfl (pv 4)) (blkOk_by (N := ["tape", "most", "many", "width", "tables", "name", "optional", "columns", "label", "kind", "column", "total", "table"]) (sc := defScope s_law_tables) (by decide +kernel)) (fun _ _ _ _ _ => (pg_name (i := 12) sc.nd rfl (Or.inl rfl))) (fun _ _ _ _ _ => pts_nil) (fun _ _ _ _ _ => (pe_callB (k_len (K := K) rfl) (by rfl) T.b_len PySem.boot_len (pa_cons (pe_ix (k_ixT (K := K) rfl) (pv 12) pe_int (fun _ _ => rfl)) pa_nil)))) pa_nil)) (pe_callB (k_len (K := K) rfl) (by rfl) T.b_len PySem.boot_len (pa_cons (pv 7) pa_nil))))
    (pss_one (ps_if (PW.pt (pw_and (pt_cmpR o_lt (pv 11) pe_int (nomark _)) (pw_and1 (pt_cmpR o_le (pe_call (ok_law_many (base := base) D T) (hr.mono (by decide)) (by rfl) D.law_many.g D.law_many.F.kp D.law_many.b .nil pass0 (pa_cons (pe_op op_cat (pv 4) (pe_lst (pa_cons (pe_tup (pa_cons (pv 5) (pa_cons (pv 6) (pa_cons (pe_op op_cat (pv 7) (pe_lst (pa_cons (pv 10) pa_nil))) pa_nil)))) pa_nil))) (pa_cons (pv 2) pa_nil))) (pv 1) (nomark _))))) (pss_one (ps_expr (pe_bm PySem.F.plainAttrs_list PySem.F.slot_list_append PySem.F.type_list_append mt_append (pv 7) (pa_cons (pv 10) pa_nil)))) pss_nil)))))))
    (pss_cons (ps_if (pt_not (pt_truth (pv 7) (by intro _; rfl))) (pss_one (ps_expr (pe_bm PySem.F.plainAttrs_list PySem.F.slot_list_append PySem.F.type_list_append mt_append (pv 7) (pa_cons (pe_tup (pa_cons pe_str (pa_cons (pe_tup (pa_cons pe_str pa_nil)) (pa_cons pe_bl pa_nil)))) pa_nil)))) pss_nil)
    (pss_cons (ps_set (i := 11) sc.nd rfl (Or.inl rfl) (pe_op o_add (pe_callB (c_sum (K := K) rfl rfl) (by rfl) T.b_sum (by decide +kernel) (pa_cons (pe_lc (own := [("table", 12)]) rfl sc.nd (k_piL (K := K) rfl (pv 4)) (blkOk_by (N := ["tape", "most", "many", "width", "tables", "name", "optional", "columns", "label", "kind", "column", "total", "table"]) (sc := defScope s_law_tables) (by decide +kernel)) (fun _ _ _ _ _ => (pg_name (i := 12) sc.nd rfl (Or.inl rfl))) (fun _ _ _ _ _ => pts_nil) (fun _ _ _ _ _ => (pe_callB (k_len (K := K) rfl) (by rfl) T.b_len PySem.boot_len (pa_cons (pe_ix (k_ixT (K := K) rfl) (pv 12) pe_int (fun _ _ => rfl)) pa_nil)))) pa_nil)) (pe_callB (k_len (K := K) rfl) (by rfl) T.b_len PySem.boot_len (pa_cons (pv 7) pa_nil))))
    (pss_one (ps_if (PW.pt (pw_or (pt_not (pt_truth (pv 4) (by intro _; rfl))) (pw_or1 (PW.pt (pw_and (pt_cmpR o_le (pv 11) pe_int (nomark _)) (pw_and1 (pt_cmpR o_le (pe_call (ok_law_many (base := base) D T) (hr.mono (by decide)) (by rfl) D.law_many.g D.law_many.F.kp D.law_many.b .nil pass0 (pa_cons (pe_op op_cat (pv 4) (pe_lst (pa_cons (pe_tup (pa_cons (pv 5) (pa_cons (pv 6) (pa_cons (pv 7) pa_nil)))) pa_nil))) (pa_cons (pv 2) pa_nil))) (pv 1) (nomark _)))))))) (pss_one (ps_expr (pe_bm PySem.F.plainAttrs_list PySem.F.slot_list_append PySem.F.type_list_append mt_append (pv 4) (pa_cons (pe_tup (pa_cons (pv 5) (pa_cons (pv 6) (pa_cons (pe_callTy (k_tuple (K := K) rfl) (by rfl) T.b_tuple (by decide +kernel) (pa_cons (pv 7) pa_nil)) pa_nil)))) pa_nil)))) pss_nil))))))))
    (pss_one (ps_ret (pe_callTy (k_tuple (K := K) rfl) (by rfl) T.b_tuple (by decide +kernel) (pa_cons (pv 4) pa_nil)))))), ?_⟩
    walk_at "go"
    refine ⟨Nat.zero_le _, fun d nd => ?_⟩
    walk_at "go"
    have dt := hT.ne nd
    have T0 := hT.put (u := .lst []) dt.1 dt.2
    refine ⟨by show 6 ≤ sizeLine; decide, fun g ng => ?_⟩
    walk_at "go"
    have gt := T0.ne ng
    have T1 := T0.put (u := .lst ([1, 1, 1, 2, 2, 3].map V.int)) gt.1 gt.2
    refine ⟨t, a, 6, rfl, T1, by decide, fun n H1 n0 n1 T2 B2 => ?_⟩
    have hg1 := B2 g _ gt.1 upd_same
    obtain ⟨v, hv, v0, v1⟩ := pick [1, 1, 1, 2, 2, 3] 1 3 (by decide) n0 n1
    refine l_ixL (sqL hg1) hv ?_
    walk_at "go"
    refine ⟨Nat.zero_le _, fun e ne => ?_⟩
    walk_at "go"
    have et := T2.ne ne
    refine ⟨t, a, v, e, [], rfl, T2.put et.1 et.2, by omega, by omega, .inl (sqL upd_same), et.1, by decide, fun ns l H3 nl nnd _ nok B3 nl0 hl T3 => ?_⟩
    walk_at "go"
    have hd2 := new_same (o := .lst []) ne _ _ (B2 d _ dt.1 (new_same ng _ _ upd_same))
    have hd3 : H3 d = some (.lst []) := B3 d _ dt.1 hd2
    have ld : l ≠ d := (ne_of_none hd2 nl0).symm
    have lt : l ≠ t := ((T2.put et.1 et.2).ne nl0).1
    have B03 : But t H H3 := ((((Same.but (new_same nd)).trans (Same.but (new_same ng))).trans B2).trans (Same.but (new_same ne))).trans B3
    refine ⟨l, rfl, ⟨_, sqL hl⟩, for_list (xs := ns.map V.str) (fun i σ H' => ∃ (xs : List V) (Ts : List Tab) (y5 y6 y7 y8 y9 y10 y11 : Option V), σ = [some (.ref t), some (.int mo), some (.int m), some (.int wd), some (.ref d), y5, y6, y7, y8, y9, y10, y11, none] ∧ H' d = some (.lst xs) ∧ DpAll K H' xs (Ts.map Tab.d) ∧ H' l = some (.lst (ns.map V.str)) ∧ Tape H' t a ∧ But t H H' ∧
      (Ts.map Tab.name).Sublist (ns.take i) ∧ (Ts = [] → i = 0) ∧ colN Ts ≤ 6 ∧ (∀ T ∈ Ts, T.Ok) ∧ (∀ T ∈ Ts, (T.cols.map Col.name).Nodup))
      ⟨[], [], _, _, _, _, _, _, _, rfl, hd3, .nil, hl, T3, B03, by simp, fun _ => rfl, Nat.zero_le _, by simp, by simp⟩ ?_ ?_ ?_⟩
    · rintro i σ H4 _ ⟨xs, Ts, y5, y6, y7, y8, y9, y10, y11, rfl, hd4, hx4, hl4, T4, B4, sub, te, cn, tok, tcn⟩
      exact sqL hl4
    · rintro i x σ H4 hx ⟨xs, Ts, y5, y6, y7, y8, y9, y10, y11, rfl, hd4, hx4, hl4, T4, B4, sub, te, cn, tok, tcn⟩
      rw [List.getElem?_map] at hx
      obtain ⟨name, hname, rfl⟩ := Option.map_eq_some_iff.mp hx
      have nameok := nok name (List.mem_of_getElem? hname)
      walk_at "go"
      refine ⟨t, a, 3, rfl, T4, by decide, fun n2 H5 n20 n21 T5 B5 => ?_⟩
      walk_at "go"
      refine ⟨Nat.zero_le _, fun c nc => ?_⟩
      walk_at "go"
      have ct := T5.ne nc
      have T6 := T5.put (u := .lst []) ct.1 ct.2
      refine ⟨by show 6 ≤ sizeLine; decide, fun g2 ng2 => ?_⟩
      walk_at "go"
      have gt2 := T6.ne ng2
      have T7 := T6.put (u := .lst ([1, 1, 2, 2, 3, 4].map V.int)) gt2.1 gt2.2
      refine ⟨t, a, 6, rfl, T7, by decide, fun n3 H6 n30 n31 T8 B6 => ?_⟩
      have hg2 := B6 g2 _ gt2.1 upd_same
      obtain ⟨v2, hv2, v20, v21⟩ := pick [1, 1, 2, 2, 3, 4] 1 4 (by decide) n30 n31
      refine l_ixL (sqL hg2) hv2 ?_
      walk_at "go"
      refine ⟨Nat.zero_le _, fun e2 ne2 => ?_⟩
      walk_at "go"
      have et2 := T8.ne ne2
      refine ⟨t, a, v2, e2, [], rfl, T8.put et2.1 et2.2, by omega, by omega, .inl (sqL upd_same), et2.1, by decide, fun ls l2 H7 ll lnd _ lok B7 nl2 hl2 T9 => ?_⟩
      walk_at "go"
      have hc6 := new_same (o := .lst []) ne2 _ _ (B6 c _ ct.1 (new_same ng2 _ _ upd_same))
      have hc7 : H7 c = some (.lst []) := B7 c _ ct.1 hc6
      have l2c : l2 ≠ c := (ne_of_none hc6 nl2).symm
      have l2t : l2 ≠ t := ((T8.put et2.1 et2.2).ne nl2).1
      have B57 : But t H5 H7 := ((((Same.but (new_same nc)).trans (Same.but (new_same ng2))).trans B6).trans (Same.but (new_same ne2))).trans B7
      have l25 : H5 l2 = none := (((((Same.but (new_same nc)).trans (Same.but (new_same ng2))).trans B6).trans (Same.but (new_same ne2)))).free nl2 l2t
      generalize eo : decide (n2 = 0) = op
      refine ⟨l2, rfl, ⟨_, sqL hl2⟩, for_list (xs := ls.map V.str) (fun j σ H' => ∃ (ys : List V) (cs : List Col) (z8 z9 z10 z11 : Option V), σ = [some (.ref t), some (.int mo), some (.int m), some (.int wd), some (.ref d), some (.str name), some (.bl op), some (.ref c), z8, z9, z10, z11, none] ∧ H' c = some (.lst ys) ∧ DpAll K H' ys (cs.map Col.d) ∧ H' l2 = some (.lst (ls.map V.str)) ∧ Tape H' t a ∧ But t H5 H' ∧
        (cs.map Col.name).Sublist (ls.take j) ∧ (cs = [] ∨ colN Ts + cs.length ≤ 6) ∧ (∀ u ∈ cs, u.Ok))
        ⟨[], [], _, _, _, _, rfl, hc7, .nil, hl2, T9, B57, by simp, .inl rfl, by simp⟩ ?_ ?_ ?_⟩
      · rintro j σ H8 _ ⟨ys, cs, z8, z9, z10, z11, rfl, hc8, hy8, hl8, T10, B8, sub2, cl2, cok⟩
        exact sqL hl8
      · rintro j y σ H8 hy ⟨ys, cs, z8, z9, z10, z11, rfl, hc8, hy8, hl8, T10, B8, sub2, cl2, cok⟩
        rw [List.getElem?_map] at hy
        obtain ⟨label, hlabel, rfl⟩ := Option.map_eq_some_iff.mp hy
        have labok := lok label (List.mem_of_getElem? hlabel)
        have hd8 : H8 d = some (.lst xs) := B8 d _ dt.1 (B5 d _ dt.1 hd4)
        have pTs : PuAll (Ts.map Tab.d) = true := puAll_iff.mpr fun d m => by obtain ⟨u, _, rfl⟩ := List.mem_map.mp m; exact tab_pu u
        have hx8 := DpAll.keep (TK.but (B5.trans B8) ⟨a, T4⟩) _ _ pTs hx4
        have xl : xs.length = Ts.length := by rw [hx4.len, List.length_map]
        have yl : ys.length = cs.length := by rw [hy8.len, List.length_map]
        have sl := sub.length_le
        rw [List.length_map, List.length_take] at sl
        have cl4 : cs.length ≤ 6 := by rcases cl2 with h | h; (rw [h]; exact Nat.zero_le _); omega
        have okTs : ∀ T ∈ Ts, ∀ u ∈ T.cols, u.Ok := fun T m => (tok T m).cols
        have c8t : c ≠ t := ct.1
        refine l_gname ?_
        refine l_seq ?_
        refine l_asg ?_
        refine l_c ?_
        refine l_gname ?_
        with_reducible refine' l_cut (fun σ' H' => ∃ (kv : V) (kd : Option (List Str)), σ' = [some (.ref t), some (.int mo), some (.int m), some (.int wd), some (.ref d), some (.str name), some (.bl op), some (.ref c), some (.str label), some kv, z10, z11, none] ∧ Dp K H' kv (Col.kd ⟨label, kd, false⟩) ∧ (∀ vs, kd = some vs → vs ≠ [] ∧ vs.length ≤ 300 ∧ ∀ z ∈ vs, IsName z) ∧ Tape H' t a ∧ But t H8 H') (fun N hN => ?_) ?_
        · walk_at "go"
          refine ⟨t, a, 5, rfl, T10, by decide, fun n4 H9 n40 n41 T11 B9 => ?_⟩
          walk_at "go"
          refine l_if (fun c1 => ?_) (fun c1 => ?_)
          · skip
            walk_at "go"
            refine ⟨by show 8 ≤ sizeLine; decide, fun g3 ng3 => ?_⟩
            walk_at "go"
            have gt3 := T11.ne ng3
            have Ta := T11.put (u := .lst ([1, 2, 3, 1, 2, 3, 2, 7].map V.int)) gt3.1 gt3.2
            refine ⟨t, a, 8, rfl, Ta, by decide, fun n5 Ha n50 n51 Tb Ba => ?_⟩
            have hg3 := Ba g3 _ gt3.1 upd_same
            obtain ⟨v3, hv3, v30, v31⟩ := pick [1, 2, 3, 1, 2, 3, 2, 7] 1 7 (by decide) n50 n51
            refine l_ixL (sqL hg3) hv3 ?_
            walk_at "go"
            refine ⟨Nat.zero_le _, fun e3 ne3 => ?_⟩
            walk_at "go"
            have et3 := Tb.ne ne3
            refine ⟨t, a, v3, e3, [], rfl, Tb.put et3.1 et3.2, by omega, by omega, .inl (sqL upd_same), et3.1, by decide, fun ws l3 Hb wl wnd _ wok Bb nl3 hl3 Tc => ?_⟩
            walk_at "go"
            refine l_tupL (sqL hl3) fun r nr => ?_
            walk_at "go"
            have rt := Tc.ne nr
            exact hN _ _ ⟨.ref r, some ws, rfl, .tup (sqT upd_same) (dp_texts ws), fun vs e => by cases e; exact ⟨fun h => by rw [h] at wl; simp at wl; omega, by omega, wok⟩, Tc.put rt.1 rt.2, ((((B9.trans (Same.but (new_same ng3))).trans Ba).trans (Same.but (new_same ne3))).trans Bb).trans (Same.but (new_same nr))⟩
          · walk_at "go"
            refine ⟨by show 3 ≤ sizeLine; decide, fun u1 nu1 => ?_⟩
            walk_at "go"
            refine ⟨by show 1 ≤ sizeLine; decide, fun u2 nu2 => ?_⟩
            walk_at "go"
            have q1 := (new_same (o := .tup [.str name, .bl op, .ref c]) nu1).trans (new_same (o := .lst [.ref u1]) nu2)
            refine l_cat (q1 _ _ (B9 d _ dt.1 hd8)) upd_same (fits (by show xs.length + 1 ≤ _; omega)) fun u3 nu3 => ?_
            walk_at "go"
            have q2 := q1.trans (new_same (o := .lst (xs ++ [.ref u1])) nu3)
            have k9 := TK.but B9 ⟨a, T10⟩
            have tt : TabAt K H9 (.ref u1) ⟨name, op, cs⟩ → True := fun _ => trivial
            have hTs : TabsAt K _ (xs ++ [.ref u1]) (Ts ++ [⟨name, op, cs⟩]) := ((tabsAt_of (DpAll.keep k9 _ _ pTs hx8)).same q2).snoc ⟨u1, c, ys, rfl, sqT (((new_same nu2).trans (new_same (o := .lst (xs ++ [.ref u1])) nu3)) _ _ upd_same), .inl (sqL (q2 _ _ (B9 c _ c8t hc8))), DpAll.keep (TK.of_same q2) _ _ (cols_pu _) (DpAll.keep k9 _ _ (cols_pu _) hy8)⟩
            refine ⟨u3, _, _, rfl, .inl (sqL upd_same), hTs, fun T m => ?_, by rw [colN_snoc]; show colN Ts + cs.length ≤ 1000; omega, fun dd zs H12 S12 ndd hdd zl => ?_⟩
            · rcases List.mem_append.mp m with m | m
              · exact okTs T m
              · rw [List.mem_singleton.mp m]; exact cok
            walk_at "go"
            have q3 := q2.trans S12
            refine l_if (fun c2 => ?_) (fun c2 => ?_)
            · skip
              walk_at "go"
              refine ⟨by show 8 ≤ sizeLine; decide, fun g3 ng3 => ?_⟩
              walk_at "go"
              have gt3 := (T11.same q3).ne ng3
              have Ta := (T11.same q3).put (u := .lst ([1, 2, 3, 1, 2, 3, 2, 7].map V.int)) gt3.1 gt3.2
              refine ⟨t, a, 8, rfl, Ta, by decide, fun n5 Ha n50 n51 Tb Ba => ?_⟩
              have hg3 := Ba g3 _ gt3.1 upd_same
              obtain ⟨v3, hv3, v30, v31⟩ := pick [1, 2, 3, 1, 2, 3, 2, 7] 1 7 (by decide) n50 n51
              refine l_ixL (sqL hg3) hv3 ?_
              walk_at "go"
              refine ⟨Nat.zero_le _, fun e3 ne3 => ?_⟩
              walk_at "go"
              have et3 := Tb.ne ne3
              refine ⟨t, a, v3, e3, [], rfl, Tb.put et3.1 et3.2, by omega, by omega, .inl (sqL upd_same), et3.1, by decide, fun ws l3 Hb wl wnd _ wok Bb nl3 hl3 Tc => ?_⟩
              walk_at "go"
              refine l_tupL (sqL hl3) fun r nr => ?_
              walk_at "go"
              have rt := Tc.ne nr
              exact hN _ _ ⟨.ref r, some ws, rfl, .tup (sqT upd_same) (dp_texts ws), fun vs e => by cases e; exact ⟨fun h => by rw [h] at wl; simp at wl; omega, by omega, wok⟩, Tc.put rt.1 rt.2, (((((B9.trans (Same.but q3)).trans (Same.but (new_same ng3))).trans Ba).trans (Same.but (new_same ne3))).trans Bb).trans (Same.but (new_same nr))⟩
            · walk_at "go"
              exact hN _ _ ⟨_, none, rfl, .str _, fun vs e => (nomatch e), T11.same q3, B9.trans (Same.but q3)⟩
        · rintro σ' H9 ⟨kv, kd, rfl, hkv, kok, T11, B9⟩
          walk_at "go"
          refine ⟨t, a, 3, rfl, T11, by decide, fun n6 H10 n60 n61 T12 B10 => ?_⟩
          walk_at "go"
          refine ⟨by show 3 ≤ sizeLine; decide, fun u nu => ?_⟩
          walk_at "go"
          generalize decide (n6 = 0) = nl at nu ⊢
          have sN := new_same (o := .tup [.str label, kv, .bl nl]) nu
          have hus : (upd H10 u (.tup [.str label, kv, .bl nl])) u = some (.tup [.str label, kv, .bl nl]) := upd_same
          have B8s := (B9.trans B10).trans (Same.but sN)
          have Tsx := T12.same sN
          have hks := Dp.keep ((TK.but B10 ⟨a, T11⟩).trans (TK.of_same sN)) _ _ (kd_pu _) hkv
          generalize upd H10 u (.tup [.str label, kv, .bl nl]) = Hs at sN hus B8s Tsx hks ⊢
          have ks := TK.but B8s ⟨a, T10⟩
          have hds : Hs d = some (.lst xs) := B8s d _ dt.1 hd8
          have hcs : Hs c = some (.lst ys) := B8s c _ c8t hc8
          have hls : Hs l2 = some (.lst (ls.map V.str)) := B8s l2 _ l2t hl8
          have hxs := DpAll.keep ks _ _ pTs hx8
          have hys := DpAll.keep ks _ _ (cols_pu _) hy8
          have okc : (⟨label, kd, nl⟩ : Col).Ok := ⟨labok, kok⟩
          have tkl : ls.take (j + 1) = ls.take j ++ [label] := by rw [List.take_add_one, hlabel]; rfl
          have stay : ∀ Hz, Same Hs Hz → ∀ z8 z9 z10 z11 : Option V, ∃ (ys : List V) (cs : List Col) (w8 w9 w10 w11 : Option V), [some (.ref t), some (.int mo), some (.int m), some (.int wd), some (.ref d), some (.str name), some (.bl op), some (.ref c), z8, z9, z10, z11, none] = [some (.ref t), some (.int mo), some (.int m), some (.int wd), some (.ref d), some (.str name), some (.bl op), some (.ref c), w8, w9, w10, w11, none] ∧ Hz c = some (.lst ys) ∧ DpAll K Hz ys (cs.map Col.d) ∧ Hz l2 = some (.lst (ls.map V.str)) ∧ Tape Hz t a ∧ But t H5 Hz ∧
              (cs.map Col.name).Sublist (ls.take (j + 1)) ∧ (cs = [] ∨ colN Ts + cs.length ≤ 6) ∧ (∀ u ∈ cs, u.Ok) := fun Hz Sz z8 z9 z10 z11 =>
            ⟨ys, cs, _, _, _, _, rfl, Sz _ _ hcs, DpAll.keep (TK.of_same Sz) _ _ (cols_pu _) hys, Sz _ _ hls, Tsx.same Sz, B8.trans (B8s.trans (Same.but Sz)), by rw [tkl]; exact sub2.trans (List.sublist_append_left _ _), cl2, cok⟩
          refine ⟨d, rfl, ⟨_, sqL hds⟩, fun g4 ng4 => lc_list (xs := xs) (fun k H' => ∃ acc : List Int, H' g4 = some (.lst (acc.map V.int)) ∧ acc.length = k ∧ acc.sum = (colN (Ts.take k) : Int) ∧ Same Hs H') ⟨[], upd_same, rfl, rfl, new_same ng4⟩ (fun i H' _ ⟨_, _, _, _, h⟩ => h.seq (sqL hds)) ?_ ?_⟩
          · rintro k x H' hx ⟨acc, ha, al, as, S⟩
            obtain ⟨T, hT1, pT, cT, yT, rfl, h1, h2, h3⟩ := ((tabsAt_of hxs).same S).2 k x hx
            have eT : yT.length = T.cols.length := by rw [h3.len, List.length_map]
            have kl : k < Ts.length := (List.getElem?_eq_some_iff.mp hT1).1
            have tk : colN (Ts.take (k + 1)) = colN (Ts.take k) + T.cols.length := by rw [List.take_add_one, hT1]; exact colN_snoc _ _
            walk_at "go"
            refine ⟨rfl, ?_⟩
            walk_at "go"
            refine l_lenX h2 ?_
            walk_at "go"
            exact ⟨acc.map V.int, ha, fits_lt (by rw [List.length_map]; omega), acc ++ [(yT.length : Int)], by rw [upd_same, List.map_append]; rfl, by rw [List.length_append, al]; rfl, by rw [List.sum_append, as, tk, eT]; simp, Same.put S ng4⟩
          · rintro H11 ⟨acc, ha, al, as, S11⟩
            rw [xl, List.take_length] at as
            have hc11 : H11 c = some (.lst ys) := S11 _ _ hcs
            walk_at "go"
            refine l_sum (sqL ha) ?_
            rw [as]
            walk_at "go"
            refine l_if (fun c3 => ?_) (fun c3 => ?_)
            · walk_at "go"
              refine ⟨by show 1 ≤ sizeLine; decide, fun w1 nw1 => ?_⟩
              walk_at "go"
              have r1 := new_same (o := .lst [.ref u]) nw1
              refine l_cat (r1 _ _ hc11) upd_same (fits (by show ys.length + 1 ≤ _; omega)) fun w2 nw2 => ?_
              walk_at "go"
              refine ⟨by show 3 ≤ sizeLine; decide, fun w3 nw3 => ?_⟩
              walk_at "go"
              refine ⟨by show 1 ≤ sizeLine; decide, fun w4 nw4 => ?_⟩
              walk_at "go"
              have r2 := (new_same (o := .tup [.str name, .bl op, .ref w2]) nw3).trans (new_same (o := .lst [.ref w3]) nw4)
              have r3 := (r1.trans (new_same (o := .lst (ys ++ [.ref u])) nw2)).trans r2
              refine l_cat (r3 _ _ (S11 _ _ hds)) upd_same (fits (by show xs.length + 1 ≤ _; omega)) fun w5 nw5 => ?_
              walk_at "go"
              have r5 := new_same (o := .lst (xs ++ [.ref w3])) nw5
              have r6 := S11.trans (r3.trans r5)
              have hw3 := ((new_same (o := .lst [.ref w3]) nw4).trans r5) _ _ (upd_same (a := w3))
              have hw2 := (r2.trans r5) _ _ (upd_same (a := w2))
              have dcol : Dp K Hs (.ref u) (Col.d ⟨label, kd, nl⟩) := .tup (sqT hus) (.cons (.str _) (.cons hks (.cons (.bl _) .nil)))
              have hys2 : DpAll K Hs (ys ++ [.ref u]) ((cs ++ [(⟨label, kd, nl⟩ : Col)]).map Col.d) := by rw [List.map_append]; exact hys.snoc dcol
              have hTs : TabsAt K _ (xs ++ [.ref w3]) (Ts ++ [⟨name, op, cs ++ [⟨label, kd, nl⟩]⟩]) := ((tabsAt_of hxs).same r6).snoc ⟨w3, w2, _, rfl, sqT hw3, .inl (sqL hw2), DpAll.keep (TK.of_same r6) _ _ (cols_pu _) hys2⟩
              have cok2 : ∀ v ∈ cs ++ [(⟨label, kd, nl⟩ : Col)], v.Ok := fun v m => by
                rcases List.mem_append.mp m with m | m
                · exact cok v m
                · rw [List.mem_singleton.mp m]; exact okc
              refine ⟨w5, _, _, m, rfl, .inl (sqL upd_same), hTs, fun T mm => ?_, by rw [colN_snoc]; show colN Ts + (cs ++ [(⟨label, kd, nl⟩ : Col)]).length ≤ 1000; rw [List.length_append]; show colN Ts + (cs.length + 1) ≤ 1000; omega, m0, m1, fun nn H13 S13 => ?_⟩
              · rcases List.mem_append.mp mm with mm | mm
                · exact okTs T mm
                · rw [List.mem_singleton.mp mm]; exact cok2
              have Sz := r6.trans S13
              have hc13 := Sz _ _ hcs
              have room : ys.length < sizeLine := fits_lt (by omega)
              walk_at "go"
              refine l_if (fun c4 => ?_) (fun c4 => ?_)
              · walk_at "go"
                refine ⟨ys ++ [.ref u], cs ++ [⟨label, kd, nl⟩], _, _, _, _, rfl, upd_same, DpAll.keep ((TK.of_same Sz).trans (TK.put hc13)) _ _ (cols_pu _) hys2, by rw [upd_ne l2c]; exact Sz _ _ hls, (Tsx.same Sz).put c8t ?_, But.new (B8.trans (B8s.trans (Same.but Sz))) nc, by rw [tkl, List.map_append]; exact sub2.append (List.Sublist.refl _), .inr (by rw [List.length_append]; show colN Ts + (cs.length + 1) ≤ 6; omega), cok2⟩
                exact ct.2
              · walk_at "go"
                exact stay _ Sz _ _ _ _
            · walk_at "go"
              exact stay _ S11 _ _ _ _
      · rintro σ H8 ⟨ys, cs, z8, z9, z10, z11, rfl, hc8, hy8, hl8, T10, B8, sub2, cl2, cok⟩
        have cl4 : cs.length ≤ 4 := by
          have := sub2.length_le
          rw [List.length_map, List.length_take] at this
          omega
        have pTs : PuAll (Ts.map Tab.d) = true := puAll_iff.mpr fun d m => by obtain ⟨u, _, rfl⟩ := List.mem_map.mp m; exact tab_pu u
        have xl : xs.length = Ts.length := by rw [hx4.len, List.length_map]
        have sl := sub.length_le
        rw [List.length_map, List.length_take] at sl
        have okTs : ∀ T ∈ Ts, ∀ u ∈ T.cols, u.Ok := fun T m => (tok T m).cols
        refine l_nx ?_
        with_reducible refine' l_cut (fun σ' H' => ∃ (ys : List V) (cs : List Col) (z8 z9 z10 z11 : Option V), σ' = [some (.ref t), some (.int mo), some (.int m), some (.int wd), some (.ref d), some (.str name), some (.bl op), some (.ref c), z8, z9, z10, z11, none] ∧ H' c = some (.lst ys) ∧ DpAll K H' ys (cs.map Col.d) ∧ Tape H' t a ∧ But t H5 H' ∧ (cs.map Col.name).Nodup ∧ cs ≠ [] ∧ cs.length ≤ 4 ∧ (∀ u ∈ cs, u.Ok)) (fun N hN => ?_) ?_
        · walk_at "go"
          refine ⟨_, .inl ⟨ys, sqL hc8, rfl⟩, ?_⟩
          have yl : ys.length = cs.length := by rw [hy8.len, List.length_map]
          cases ys with
          | nil =>
            refine l_ifNF ?_
            walk_at "go"
            refine ⟨by show 1 ≤ sizeLine; decide, fun o1 no1 => ?_⟩
            walk_at "go"
            refine ⟨by show 3 ≤ sizeLine; decide, fun o2 no2 => ?_⟩
            have q1 := new_same (o := .tup [.str "one"]) no1
            have q2 := new_same (o := .tup [.str "only", .ref o1, .bl false]) no2
            have hcq := (q1.trans q2) _ _ hc8
            have room : ([] : List V).length < sizeLine := by decide
            walk_at "go"
            refine hN _ _ ⟨[.ref o2], [⟨"only", some ["one"], false⟩], _, _, _, _, rfl, upd_same, .cons (.tup (sqT (by rw [upd_ne (ne_of_none (q1 _ _ hc8) no2).symm]; exact upd_same)) (.cons (.str _) (.cons (.tup (sqT (by rw [upd_ne (ne_of_none hc8 no1).symm]; exact q2 _ _ upd_same)) (.cons (.str _) .nil)) (.cons (.bl _) .nil)))) .nil, (T10.same (q1.trans q2)).put ct.1 ct.2, But.new (B8.trans (Same.but (q1.trans q2))) nc, by simp, by simp, by decide, fun u m => ?_⟩
            rw [List.mem_singleton.mp m]
            exact ⟨only_name, fun vs e => by cases e; exact ⟨by simp, by decide, fun z m => by rw [List.mem_singleton.mp m]; exact one_name⟩⟩
          | cons y0 ys =>
            refine l_ifNT ?_
            walk_at "go"
            exact hN _ _ ⟨_, cs, _, _, _, _, rfl, hc8, hy8, T10, B8, sub2.nodup (lnd.sublist (List.take_sublist _ _)), fun h => by (rw [h] at yl; cases yl), cl4, cok⟩
        · rintro σ' H9 ⟨ys2, cs2, z8, z9, z10, z11, rfl, hc9, hy9, T9', B9, cnd, cne, cl9, cok9⟩
          have B49 := (B4.trans B5).trans B9
          have hd9 : H9 d = some (.lst xs) := B9 d _ dt.1 (B5 d _ dt.1 hd4)
          have hl9 : H9 l = some (.lst (ns.map V.str)) := B9 l _ lt (B5 l _ lt hl4)
          have hx9 := DpAll.keep (TK.but (B5.trans B9) ⟨a, T4⟩) _ _ pTs hx4
          have okT : Tab.Ok ⟨name, op, cs2⟩ := ⟨nameok, cok9, cne⟩
          have y2l : ys2.length = cs2.length := by rw [hy9.len, List.length_map]
          walk_at "go"
          refine ⟨d, rfl, ⟨_, sqL hd9⟩, fun g4 ng4 => lc_list (xs := xs) (fun k H' => ∃ acc : List Int, H' g4 = some (.lst (acc.map V.int)) ∧ acc.length = k ∧ acc.sum = (colN (Ts.take k) : Int) ∧ Same H9 H') ⟨[], upd_same, rfl, rfl, new_same ng4⟩ (fun i H' _ ⟨_, _, _, _, h⟩ => h.seq (sqL hd9)) ?_ ?_⟩
          · rintro k x H' hx ⟨acc, ha, al, as, S⟩
            obtain ⟨T, hT1, pT, cT, yT, rfl, h1, h2, h3⟩ := ((tabsAt_of hx9).same S).2 k x hx
            have eT : yT.length = T.cols.length := by rw [h3.len, List.length_map]
            have kl : k < Ts.length := (List.getElem?_eq_some_iff.mp hT1).1
            have tk : colN (Ts.take (k + 1)) = colN (Ts.take k) + T.cols.length := by rw [List.take_add_one, hT1]; exact colN_snoc _ _
            walk_at "go"
            refine ⟨rfl, ?_⟩
            walk_at "go"
            refine l_lenX h2 ?_
            walk_at "go"
            exact ⟨acc.map V.int, ha, fits_lt (by rw [List.length_map]; omega), acc ++ [(yT.length : Int)], by rw [upd_same, List.map_append]; rfl, by rw [List.length_append, al]; rfl, by rw [List.sum_append, as, tk, eT]; simp, Same.put S ng4⟩
          · rintro H11 ⟨acc, ha, al, as, S11⟩
            rw [xl, List.take_length] at as
            have hc11 : H11 c = some (.lst ys2) := S11 _ _ hc9
            walk_at "go"
            refine l_sum (sqL ha) ?_
            rw [as]
            walk_at "go"
            have hd11 := S11 _ _ hd9
            refine ⟨_, .inl ⟨xs, sqL hd11, rfl⟩, ?_⟩
            refine l_ifNN (fun c1 => ?_) (fun c1 => ?_)
            · have SZ := S11
              have Ts0 : Ts = [] := by
                have : xs = [] := by simpa using c1
                rw [this] at xl
                exact List.eq_nil_of_length_eq_zero xl.symm
              have CN : colN Ts + cs2.length ≤ 6 := by rw [Ts0]; show 0 + cs2.length ≤ 6; omega
              refine l_ifT ?_
              walk_at "go"
              refine l_tupL (sqL (SZ _ _ hc9)) fun r nr => ?_
              walk_at "go"
              refine ⟨by show 3 ≤ sizeLine; decide, fun s' ns' => ?_⟩
              have p1 := new_same (o := .tup ys2) nr
              have p2 := new_same (o := .tup [.str name, .bl op, .ref r]) ns'
              have pz := SZ.trans (p1.trans p2)
              have hdz := pz _ _ hd9
              have room : xs.length < sizeLine := fits_lt (by omega)
              walk_at "go"
              have dtab : Dp K _ (.ref s') (Tab.d ⟨name, op, cs2⟩) := .tup (sqT (upd_same (a := s'))) (.cons (.str _) (.cons (.bl _) (.cons (.tup (sqT (p2 _ _ upd_same)) (DpAll.keep (TK.of_same pz) _ _ (cols_pu _) hy9)) .nil)))
              have hxz := (DpAll.keep (TK.of_same pz) _ _ pTs hx9).snoc dtab
              refine ⟨xs ++ [.ref s'], Ts ++ [⟨name, op, cs2⟩], _, _, _, _, _, _, _, rfl, upd_same, ?_, by rw [upd_ne ld]; exact pz _ _ hl9, (T9'.same pz).put dt.1 dt.2, But.new (B49.trans (Same.but pz)) nd, ?_, fun h => absurd h (by simp), by rw [colN_snoc]; exact CN, ?_, ?_⟩
              · rw [List.map_append]
                exact DpAll.keep (TK.put hdz) _ _ (puAll_iff.mpr fun d m => by rcases List.mem_append.mp m with m | m <;> (obtain ⟨u, _, rfl⟩ := List.mem_map.mp m; exact tab_pu u)) hxz
              · rw [List.map_append, List.take_add_one, hname]
                exact sub.append (List.Sublist.refl _)
              · intro T mm
                rcases List.mem_append.mp mm with mm | mm
                · exact tok T mm
                · rw [List.mem_singleton.mp mm]; exact okT
              · intro T mm
                rcases List.mem_append.mp mm with mm | mm
                · exact tcn T mm
                · rw [List.mem_singleton.mp mm]; exact cnd
            · have Ts1 : Ts ≠ [] := fun h => by
                rw [h] at xl
                have : xs = [] := List.eq_nil_of_length_eq_zero xl
                rw [this] at c1
                cases c1
              have stay : ∀ Hz, Same H9 Hz → ∀ y5 y6 y7 y8 y9 y10 y11 : Option V, ∃ (xs : List V) (Ts : List Tab) (w5 w6 w7 w8 w9 w10 w11 : Option V), [some (.ref t), some (.int mo), some (.int m), some (.int wd), some (.ref d), y5, y6, y7, y8, y9, y10, y11, none] = [some (.ref t), some (.int mo), some (.int m), some (.int wd), some (.ref d), w5, w6, w7, w8, w9, w10, w11, none] ∧ Hz d = some (.lst xs) ∧ DpAll K Hz xs (Ts.map Tab.d) ∧ Hz l = some (.lst (ns.map V.str)) ∧ Tape Hz t a ∧ But t H Hz ∧
                  (Ts.map Tab.name).Sublist (ns.take (i + 1)) ∧ (Ts = [] → i + 1 = 0) ∧ colN Ts ≤ 6 ∧ (∀ T ∈ Ts, T.Ok) ∧ (∀ T ∈ Ts, (T.cols.map Col.name).Nodup) := fun Hz Sz y5 y6 y7 y8 y9 y10 y11 =>
                ⟨xs, Ts, _, _, _, _, _, _, _, rfl, Sz _ _ hd9, DpAll.keep (TK.of_same Sz) _ _ pTs hx9, Sz _ _ hl9, T9'.same Sz, B49.trans (Same.but Sz), by rw [List.take_add_one, hname]; exact sub.trans (List.sublist_append_left _ _), fun h => absurd h Ts1, cn, tok, tcn⟩
              walk_at "go"
              refine l_if (fun c3 => ?_) (fun c3 => ?_)
              · walk_at "go"
                refine ⟨by show 3 ≤ sizeLine; decide, fun w3 nw3 => ?_⟩
                walk_at "go"
                refine ⟨by show 1 ≤ sizeLine; decide, fun w4 nw4 => ?_⟩
                walk_at "go"
                have r3 := (new_same (o := .tup [.str name, .bl op, .ref c]) nw3).trans (new_same (o := .lst [.ref w3]) nw4)
                refine l_cat (r3 _ _ hd11) upd_same (fits (by show xs.length + 1 ≤ _; omega)) fun w5 nw5 => ?_
                walk_at "go"
                have r5 := new_same (o := .lst (xs ++ [.ref w3])) nw5
                have r6 := S11.trans (r3.trans r5)
                have hw3 := ((new_same (o := .lst [.ref w3]) nw4).trans r5) _ _ (upd_same (a := w3))
                have hTs : TabsAt K _ (xs ++ [.ref w3]) (Ts ++ [⟨name, op, cs2⟩]) := ((tabsAt_of hx9).same r6).snoc ⟨w3, c, ys2, rfl, sqT hw3, .inl (sqL (r6 _ _ hc9)), DpAll.keep (TK.of_same r6) _ _ (cols_pu _) hy9⟩
                refine ⟨w5, _, _, m, rfl, .inl (sqL upd_same), hTs, fun T mm => ?_, by rw [colN_snoc]; show colN Ts + cs2.length ≤ 1000; omega, m0, m1, fun nn H13 S13 => ?_⟩
                · rcases List.mem_append.mp mm with mm | mm
                  · exact okTs T mm
                  · rw [List.mem_singleton.mp mm]; exact cok9
                have SZ := r6.trans S13
                have CN : colN Ts + cs2.length ≤ 6 := by omega
                have hd13 := SZ _ _ hd9
                walk_at "go"
                refine l_if (fun c4 => ?_) (fun c4 => ?_)
                · skip
                  walk_at "go"
                  refine l_tupL (sqL (SZ _ _ hc9)) fun r nr => ?_
                  walk_at "go"
                  refine ⟨by show 3 ≤ sizeLine; decide, fun s' ns' => ?_⟩
                  have p1 := new_same (o := .tup ys2) nr
                  have p2 := new_same (o := .tup [.str name, .bl op, .ref r]) ns'
                  have pz := SZ.trans (p1.trans p2)
                  have hdz := pz _ _ hd9
                  have room : xs.length < sizeLine := fits_lt (by omega)
                  walk_at "go"
                  have dtab : Dp K _ (.ref s') (Tab.d ⟨name, op, cs2⟩) := .tup (sqT (upd_same (a := s'))) (.cons (.str _) (.cons (.bl _) (.cons (.tup (sqT (p2 _ _ upd_same)) (DpAll.keep (TK.of_same pz) _ _ (cols_pu _) hy9)) .nil)))
                  have hxz := (DpAll.keep (TK.of_same pz) _ _ pTs hx9).snoc dtab
                  refine ⟨xs ++ [.ref s'], Ts ++ [⟨name, op, cs2⟩], _, _, _, _, _, _, _, rfl, upd_same, ?_, by rw [upd_ne ld]; exact pz _ _ hl9, (T9'.same pz).put dt.1 dt.2, But.new (B49.trans (Same.but pz)) nd, ?_, fun h => absurd h (by simp), by rw [colN_snoc]; exact CN, ?_, ?_⟩
                  · rw [List.map_append]
                    exact DpAll.keep (TK.put hdz) _ _ (puAll_iff.mpr fun d m => by rcases List.mem_append.mp m with m | m <;> (obtain ⟨u, _, rfl⟩ := List.mem_map.mp m; exact tab_pu u)) hxz
                  · rw [List.map_append, List.take_add_one, hname]
                    exact sub.append (List.Sublist.refl _)
                  · intro T mm
                    rcases List.mem_append.mp mm with mm | mm
                    · exact tok T mm
                    · rw [List.mem_singleton.mp mm]; exact okT
                  · intro T mm
                    rcases List.mem_append.mp mm with mm | mm
                    · exact tcn T mm
                    · rw [List.mem_singleton.mp mm]; exact cnd
                · walk_at "go"
                  exact stay _ SZ _ _ _ _ _ _ _
              · walk_at "go"
                exact stay _ S11 _ _ _ _ _ _ _
    · rintro σ H4 ⟨xs, Ts, y5, y6, y7, y8, y9, y10, y11, rfl, hd4, hx4, hl4, T4, B4, sub, te, cn, tok, tcn⟩
      walk_at "go"
      refine l_tupL (sqL hd4) fun r nr => ?_
      show Q _ _
      have rt := T4.ne nr
      have nsl : 0 < ns.length := by omega
      refine q Ts r xs _ ⟨tok, fun h => ?_, by omega, ?_, ?_, tcn⟩ (B4.trans (Same.but (new_same nr))) (B4.free nr rt.1) upd_same (DpAll.keep (TK.of_same (new_same nr)) _ _ ?_ hx4) (T4.put rt.1 rt.2)
      · have := te h
        rw [List.length_map] at this
        omega
      · have := sub.length_le
        rw [List.length_map, List.length_take] at this
        omega
      · exact sub.nodup (nnd.sublist (List.take_sublist _ _))
      · exact puAll_iff.mpr fun d m => by obtain ⟨u, _, rfl⟩ := List.mem_map.mp m; exact tab_pu u

open Mx in
theorem om_law_tables (D : Ds K mg) (T : Txt mg) : FnOk P w K mg base CX0 3 D.law_tables.f D.law_tables.fd ["tape", "most", "many", "width"] (spM w K 4 (fTables)) := by
  refine imp_m (ok_law_tables (base := base) D T) fun T0 H vs dvs Qm Q E t p m q => ?_
  obtain ⟨mo, m, wd, rfl, m0, m1, hq⟩ := m
  obtain ⟨v, u, r, s, rfl, h1, h2, h3, h4⟩ := p4 p
  obtain ⟨pp, hpp, rfl⟩ := h1
  obtain rfl : T0 = some pp := hpp
  rw [dp_int h2.1, dp_int h3.1, dp_int h4.1]
  exact ⟨pp.1, pp.2, mo, m, wd, rfl, t.1 pp rfl, m0, m1, fun Ts p xs H' ok bb np hp ha T' => q _ _ H' (came_but t bb T' (.tup (sqT hp) ha) (tabs_pd ok.ok)) (hq Ts ok)⟩
end
end K10
namespace K10
open PySem PySem.Spec PyProof.Rows L2 Tq
section
variable {P : Program} {w : World} {K : PySem.W.Frag} {mg : Str → Option Value} {base : Heap} [Mx.Tb] [Mx.Bs base mg]
def spValueWords (K : PySem.W.Frag) : Sp := fun vs H Q _ => ∃ (p0 : Addr) (xs : List V) (Ts : List Tab), vs = [.ref p0] ∧ SqT K H p0 xs ∧ DpAll K H xs (Ts.map Tab.d) ∧ (∀ t ∈ Ts, ∀ c ∈ t.cols, c.Ok) ∧ colN Ts ≤ 1000 ∧
  ∀ (d : Addr) (ws : List Str) (H' : Hp), Same H H' → H d = none → H' d = some (.lst (ws.map V.str)) → ws ≠ [] → ws.length ≤ 4001 → (∀ z ∈ ws, IsName z) → Q (.ref d) H'
theorem stranger_name : IsName "stranger" := ⟨⟨⟨_, _, rfl, by decide, by decide⟩, by decide +kernel⟩, by decide, by decide +kernel⟩

theorem ok_law_value_words (D : Ds K mg) (T : Txt mg) : FnOk P w K mg base CX0 1 D.law_value_words.f D.law_value_words.fd ["tables"] (spValueWords K) := by
  have sc := sc_law_value_words
  refine D.law_value_words.F.ok sc (fun vs H Q E h => ?_) (fun cdv A outer s H vs Q E hr h => ?_)
  · obtain ⟨p0, xs, Ts, rfl, _⟩ := h
    rfl
  · obtain ⟨p0, xs, Ts, rfl, hS, hT, ok, few, q⟩ := h
    refine ⟨_, (pss_cons (ps_set (i := 1) sc.nd rfl (Or.inr rfl) (pe_lst (pa_cons pe_str pa_nil)))
    (pss_cons (ps_for PassesOwn.never rfl (k_piT (K := K) rfl (pv 0)) (pg_name (i := 2) sc.nd rfl (Or.inl rfl)) (pss_one (ps_for PassesOwn.never rfl (k_piT (K := K) rfl (pe_ix (k_ixT (K := K) rfl) (pv 2) pe_int (fun _ _ => rfl))) (pg_name (i := 3) sc.nd rfl (Or.inl rfl)) (pss_one (ps_if (pt_cmpR (k_neD (K := K) rfl hr.units) (pe_ix (k_ixT (K := K) rfl) (pv 3) pe_int (fun _ _ => rfl)) pe_str (nomark _)) (pss_cons (ps_set (i := 4) sc.nd rfl (Or.inl rfl) (pe_op (k_catA (K := K) rfl) (pe_slice (k_slA (K := K) rfl) (pe_ix (k_ixT (K := K) rfl) (pv 3) pe_int (fun _ _ => rfl)) po_none (po_some pe_int)) (pe_slice (k_slA (K := K) rfl) (pe_ix (k_ixT (K := K) rfl) (pv 3) pe_int (fun _ _ => rfl)) (po_some (pe_op o_sub (pe_callB (k_len (K := K) rfl) (by rfl) T.b_len PySem.boot_len (pa_cons (pe_ix (k_ixT (K := K) rfl) (pv 3) pe_int (fun _ _ => rfl)) pa_nil)) pe_int)) po_none)))
    (pss_one (ps_set (i := 1) sc.nd rfl (Or.inr rfl) (pe_op op_cat (pv 1) (pe_lc (own := [("word", 5)]) rfl sc.nd (k_piT (K := K) rfl (pv 4)) (blkOk_by (N := ["tables", "words", "table", "column", "some", "word"]) (sc := defScope s_law_value_words) (by decide +kernel)) (fun _ _ _ _ _ => (pg_name (i := 5) sc.nd rfl (Or.inl rfl))) (fun _ _ _ _ _ => pts_one (pt_cmpR (k_notIn (K := K) rfl) (pv 5) (pv 1) (by rfl))) (fun _ _ _ _ _ => (pv 5))))))) pss_nil)))))
    (pss_one (ps_ret (pv 1))))), ?_⟩
    walk_at "go"
    refine ⟨by show 1 ≤ sizeLine; decide, fun d nd => ?_⟩
    walk_at "go"
    have s1 := new_same (o := .lst [.str "stranger"]) nd
    have pTs : PuAll (Ts.map Tab.d) = true := puAll_iff.mpr fun d m => by obtain ⟨u, _, rfl⟩ := List.mem_map.mp m; exact tab_pu u
    refine ⟨p0, rfl, ⟨_, s1.seqT hS⟩, for_tup (xs := xs) (fun i σ H' => ∃ (e : Addr) (ws : List Str) (y2 y3 y4 : Option V), σ = [some (.ref p0), some (.ref e), y2, y3, y4, none] ∧ H' e = some (.lst (ws.map V.str)) ∧ ws ≠ [] ∧ ws.length ≤ 1 + 4 * colN (Ts.take i) ∧ (∀ z ∈ ws, IsName z) ∧ Same H H' ∧ H e = none) ⟨d, ["stranger"], _, _, _, rfl, upd_same, by simp, Nat.le_add_right _ _, fun z m => by rw [List.mem_singleton.mp m]; exact stranger_name, s1, nd⟩ ?_ ?_ ?_⟩
    · rintro i σ H1 _ ⟨e, ws, y2, y3, y4, rfl, he, wn, wl, wok, S1, ne⟩
      exact S1.seqT hS
    · rintro i x σ H1 hx ⟨e, ws, y2, y3, y4, rfl, he, wn, wl, wok, S1, ne⟩
      obtain ⟨dt, hdt, hx1⟩ := hT.at hx
      rw [List.getElem?_map] at hdt
      obtain ⟨T, hT1, rfl⟩ := Option.map_eq_some_iff.mp hdt
      have okT := ok T (List.mem_of_getElem? hT1)
      have tk : colN (Ts.take (i + 1)) = colN (Ts.take i) + T.cols.length := by rw [List.take_add_one, hT1]; exact colN_snoc _ _
      have tk2 := colN_take Ts (i + 1)
      obtain ⟨p, zs, rfl, hp, hz⟩ := dp_tup (Dp.keep (TK.of_same S1) _ _ (tab_pu T) hx1)
      obtain ⟨c, ys, hp, hc, hy⟩ : ∃ (c : Addr) (ys : List V), SqT K H1 p [.str T.name, .bl T.opt, .ref c] ∧ SqT K H1 c ys ∧ DpAll K H1 ys (T.cols.map Col.d) := by
        cases hz with
        | cons a hz =>
          cases hz with
          | cons b hz =>
            cases hz with
            | cons d hz =>
              cases hz
              obtain ⟨c, ys, rfl, hs2, ha2⟩ := dp_tup d
              rw [dp_str a, dp_bool b] at hp
              exact ⟨c, ys, hp, hs2, ha2⟩
      have el : ys.length = T.cols.length := by rw [hy.len, List.length_map]
      walk_at "go"
      refine ⟨c, rfl, ⟨_, hc⟩, for_tup (xs := ys) (fun j σ H' => ∃ (e : Addr) (ws : List Str) (y3 y4 : Option V), σ = [some (.ref p0), some (.ref e), some (.ref p), y3, y4, none] ∧ H' e = some (.lst (ws.map V.str)) ∧ ws ≠ [] ∧ ws.length ≤ 1 + 4 * colN (Ts.take i) + 4 * j ∧ (∀ z ∈ ws, IsName z) ∧ Same H1 H' ∧ H e = none) ⟨e, ws, _, _, rfl, he, wn, wl, wok, Same.refl _, ne⟩ ?_ ?_ ?_⟩
      · rintro j σ H2 _ ⟨e, ws, y3, y4, rfl, he, wn, wl, wok, S2, ne⟩
        exact S2.seqT hc
      · rintro j y σ H2 hy1 ⟨e, ws, y3, y4, rfl, he, wn, wl, wok, S2, ne⟩
        obtain ⟨dc, hdc, hcl⟩ := hy.at hy1
        rw [List.getElem?_map] at hdc
        obtain ⟨cl, hc0, rfl⟩ := Option.map_eq_some_iff.mp hdc
        have jl : j < T.cols.length := (List.getElem?_eq_some_iff.mp hc0).1
        obtain ⟨pc, kv, rfl, hpc, hk⟩ := dp_col (Dp.keep (TK.of_same S2) _ _ (col_pu cl) hcl)
        have okc := okT cl (List.mem_of_getElem? hc0)
        walk_at "go"
        refine l_neText hk okc ?_
        walk_at "go"
        cases ek : cl.kind with
        | none =>
          have c1 : cl.isT = true := by unfold Col.isT; rw [ek]; rfl
          rw [c1]
          refine l_ifNT ?_
          walk_at "go"
          exact ⟨e, ws, _, _, rfl, he, wn, by omega, wok, S2, ne⟩
        | some vs =>
          have c1 : cl.isT = false := by unfold Col.isT; rw [ek]; rfl
          rw [c1]
          refine l_ifNF ?_
          have vok := okc.vals vs ek
          obtain ⟨pk, rfl, hpk⟩ : ∃ pk, kv = .ref pk ∧ SqT K H2 pk (vs.map V.str) := by
            unfold Col.kd at hk
            rw [ek] at hk
            obtain ⟨pk, ks, rfl, hpk, hka⟩ := dp_tup hk
            exact ⟨pk, rfl, hka.strs ▸ hpk⟩
          have vl : (vs.map V.str).length = vs.length := List.length_map ..
          have v0 : 0 < vs.length := List.length_pos_iff.mpr vok.1
          walk_at "go"
          refine l_part ?_
          walk_at "go"
          refine ⟨_, rfl, ?_⟩
          refine l_slA hpk fun r1 H3 S3 hr1 => ?_
          have hpc3 := S3.seqT hpc
          have hpk3 := S3.seqT hpk
          walk_at "go"
          refine l_part ?_
          walk_at "go"
          refine ⟨_, rfl, ?_⟩
          walk_at "go"
          refine l_slA hpk3 fun r2 H4 S4 hr2 => ?_
          have b1 : (cutV (vs.map V.str) none (some 3)).length ≤ 3 := by
            unfold cutV
            rw [List.length_take]
            have : HT.sIx (vs.map V.str).length (vs.map V.str).length (some 3) ≤ 3 := by
              show HT.sIx _ _ (some ((3 : Nat) : Int)) ≤ 3
              rw [HT.sIx_nat]
              exact Nat.min_le_left _ _
            omega
          have b2 : (cutV (vs.map V.str) (some ((vs.map V.str).length - 1 : Int)) none).length ≤ 1 := by
            unfold cutV
            rw [List.length_take, List.length_drop]
            have : HT.sIx (vs.map V.str).length 0 (some ((vs.map V.str).length - 1 : Int)) = (vs.map V.str).length - 1 := by
              rw [show (((vs.map V.str).length : Int) - 1) = (((vs.map V.str).length - 1 : Nat) : Int) by omega, HT.sIx_nat]
              omega
            omega
          refine l_catA (S4.seqT hr1) hr2 (by omega) fun r3 H5 S5 hr3 => ?_
          have S25 := (S3.trans S4).trans S5
          have he5 := S25 _ _ he
          have mem : ∀ x ∈ cutV (vs.map V.str) none (some 3) ++ cutV (vs.map V.str) (some ((vs.map V.str).length - 1 : Int)) none, ∃ z, x = V.str z ∧ IsName z := by
            intro x m
            have : x ∈ vs.map V.str := by
              rcases List.mem_append.mp m with m | m <;> exact List.mem_of_mem_drop (List.mem_of_mem_take m)
            obtain ⟨z, mz, rfl⟩ := List.mem_map.mp this
            exact ⟨z, rfl, vok.2.2 z mz⟩
          have len4 : (cutV (vs.map V.str) none (some 3) ++ cutV (vs.map V.str) (some ((vs.map V.str).length - 1 : Int)) none).length ≤ 4 := by rw [List.length_append]; omega
          generalize cutV (vs.map V.str) none (some 3) ++ cutV (vs.map V.str) (some ((vs.map V.str).length - 1 : Int)) none = us at hr3 mem len4
          walk_at "go"
          refine ⟨r3, rfl, ⟨_, hr3⟩, fun g ng => lc_tup (xs := us) (fun k H' => ∃ acc : List Str, H' g = some (.lst (acc.map V.str)) ∧ acc.length ≤ k ∧ (∀ z ∈ acc, IsName z) ∧ Same H5 H') ⟨[], upd_same, Nat.le_refl _, by simp, new_same ng⟩ (fun i H' _ ⟨_, _, _, _, h⟩ => h.seqT hr3) ?_ ?_⟩
          · rintro k x H6 hx6 ⟨acc, hg, al, aok, S6⟩
            have kl : k < us.length := (List.getElem?_eq_some_iff.mp hx6).1
            obtain ⟨z, rfl, zok⟩ := mem x (List.mem_of_getElem? hx6)
            walk_at "go"
            refine ⟨rfl, ?_⟩
            walk_at "go"
            refine l_in (.inl (sqL (S6 _ _ he5))) ?_
            walk_at "go"
            refine l_ifN (fun c2 => ?_) (fun c2 => ?_)
            · walk_at "go"
              refine ⟨acc.map V.str, hg, fits_lt (by rw [List.length_map]; omega), acc ++ [z], by rw [upd_same, List.map_append]; rfl, by rw [List.length_append]; show acc.length + 1 ≤ k + 1; omega, fun u m => ?_, Same.put S6 ng⟩
              rcases List.mem_append.mp m with m | m
              · exact aok u m
              · rw [List.mem_singleton.mp m]; exact zok
            · exact ⟨acc, hg, by omega, aok, S6⟩
          · rintro H6 ⟨acc, hg, al, aok, S6⟩
            have tk3 := colN_take Ts i
            refine l_cat (S6 _ _ he5) hg (fits (by rw [List.length_map, List.length_map]; omega)) fun r nr => ?_
            walk_at "go"
            refine ⟨r, ws ++ acc, _, _, rfl, by rw [upd_same, List.map_append], by simp [wn], by rw [List.length_append]; omega, fun z m => ?_, ((S2.trans S25).trans S6).trans (new_same nr), (S1.trans ((S2.trans S25).trans S6)).free nr⟩
            rcases List.mem_append.mp m with m | m
            · exact wok z m
            · exact aok z m
      · rintro σ H2 ⟨e, ws, y3, y4, rfl, he, wn, wl, wok, S2, ne⟩
        exact ⟨e, ws, _, _, _, rfl, he, wn, by omega, wok, S1.trans S2, ne⟩
    · rintro σ H1 ⟨e, ws, y2, y3, y4, rfl, he, wn, wl, wok, S1, ne⟩
      have tk2 := colN_take Ts xs.length
      walk_at "go"
      show Q _ _
      exact q e ws H1 S1 ne he wn (by omega) wok

open Mx in
theorem om_law_value_words (D : Ds K mg) (T : Txt mg) : FnOk P w K mg base CX0 1 D.law_value_words.f D.law_value_words.fd ["tables"] (spM w K 1 (fValueWords)) := by
  refine imp_m (ok_law_value_words (base := base) D T) fun T0 H vs dvs Qm Q E t p m q => ?_
  obtain ⟨Ts, rfl, ok, few, hq⟩ := m
  obtain ⟨v, rfl, h1⟩ := p1 p
  obtain ⟨b, us, rfl, hb, hs⟩ := dp_tup h1.1
  exact ⟨b, us, Ts, rfl, hb, hs, ok, few, fun d ws H' ss nd hd w0 w1 w2 => q _ _ H' (came_lstS t ss nd hd (dp_texts ws) (pd_mem fun z m => pd_name (w2 z m))) (hq ws w0 w1 w2)⟩
end
end K10
namespace K10
open PySem PySem.Spec PyProof.Rows L2 Tq
open Mx
section
variable {P : Program} {w : World} {K : PySem.W.Frag} {mg : Str → Option Value} {base : Heap} [Mx.Tb] [Mx.Bs base mg]

theorem ok_law_operand (D : Ds K mg) (T : Txt mg) : FnOk P w K mg base CX0 2 D.law_operand.f D.law_operand.fd ["tape", "tables", "pool", "words", "textual"] (spM w K 5 (fOperand)) := by
  have sc := sc_law_operand
  refine D.law_operand.F.ok sc (fun vs H Q E h => h.1) (fun cdv A outer s H vs Q E hr h => ?_)
  refine ⟨_, (pss_cons (ps_set (i := 5) sc.nd rfl (Or.inl rfl) (pe_lst pa_nil))
    (pss_cons (ps_for PassesOwn.never rfl (k_piT (K := K) rfl (pv 1)) (pg_name (i := 6) sc.nd rfl (Or.inr rfl)) (pss_one (ps_set (i := 5) sc.nd rfl (Or.inl rfl) (pe_op op_cat (pv 5) (pe_lc (own := [("column", 7)]) rfl sc.nd (k_piT (K := K) rfl (pe_ix (k_ixT (K := K) rfl) (pv 6) pe_int (fun _ _ => rfl))) (blkOk_by (N := ["tape", "tables", "pool", "words", "textual", "fitting", "table", "column", "choice", "pair"]) (sc := defScope s_law_operand) (by decide +kernel)) (fun _ _ _ _ _ => (pg_name (i := 7) sc.nd rfl (Or.inl rfl))) (fun _ _ _ _ _ => pts_one (pt_cmpR op_eq (pe_cmpR (k_eqD (K := K) rfl hr.units) (pe_ix (k_ixT (K := K) rfl) (pv 7) pe_int (fun _ _ => rfl)) pe_str (nomark _)) (pv 4) (nomark _))) (fun _ _ _ _ _ => (pe_tup (pa_cons (pe_ix (k_ixT (K := K) rfl) (pv 6) pe_int (fun _ _ => rfl)) (pa_cons (pe_ix (k_ixT (K := K) rfl) (pv 7) pe_int (fun _ _ => rfl)) pa_nil)))))))))
    (pss_cons (ps_set (i := 8) sc.nd rfl (Or.inl rfl) (pe_call (om_law_draw (w := w) (base := base) D T) hr (by rfl) D.law_draw.g D.law_draw.F.kp D.law_draw.b .nil pass0 (pa_cons (pv 0) (pa_cons pe_int pa_nil))))
    (pss_cons (ps_if (PW.pt (pw_and (pt_cmpR o_gt (pv 8) pe_int (nomark _)) (pw_and1 (pt_truth (pv 5) (by intro _; rfl))))) (pss_cons (ps_set (i := 9) sc.nd rfl (Or.inl rfl) (pe_ix (k_ixL (K := K) rfl) (pv 5) (pe_call (om_law_draw (w := w) (base := base) D T) hr (by rfl) D.law_draw.g D.law_draw.F.kp D.law_draw.b .nil pass0 (pa_cons (pv 0) (pa_cons (pe_callB (k_len (K := K) rfl) (by rfl) T.b_len PySem.boot_len (pa_cons (pv 5) pa_nil)) pa_nil))) (fun _ _ => rfl)))
    (pss_one (ps_ret (pe_tup (pa_cons pe_str (pa_cons (pe_ix (k_ixT (K := K) rfl) (pv 9) pe_int (fun _ _ => rfl)) (pa_cons (pe_ix (k_ixT (K := K) rfl) (pv 9) pe_int (fun _ _ => rfl)) pa_nil))))))) pss_nil)
    (pss_cons (ps_if (PW.pt (pw_and (pt_cmpR o_gt (pv 8) pe_int (nomark _)) (pw_and (pt_val (pv 4)) (pw_and1 (pt_truth (pv 2) (by intro _; rfl)))))) (pss_one (ps_ret (pe_tup (pa_cons pe_str (pa_cons (pe_ix (k_ixL (K := K) rfl) (pv 2) (pe_call (om_law_draw (w := w) (base := base) D T) hr (by rfl) D.law_draw.g D.law_draw.F.kp D.law_draw.b .nil pass0 (pa_cons (pv 0) (pa_cons (pe_callB (k_len (K := K) rfl) (by rfl) T.b_len PySem.boot_len (pa_cons (pv 2) pa_nil)) pa_nil))) (fun _ _ => rfl)) pa_nil))))) pss_nil)
    (pss_cons (ps_if (PW.pt (pw_and (pt_cmpR o_gt (pv 8) pe_int (nomark _)) (pw_and (pt_truth (pv 3) (by intro _; rfl)) (pw_and1 (pt_not (pt_val (pv 4))))))) (pss_one (ps_ret (pe_tup (pa_cons pe_str (pa_cons (pe_tup (pa_cons (pe_ix (k_ixL (K := K) rfl) (pv 3) (pe_call (om_law_draw (w := w) (base := base) D T) hr (by rfl) D.law_draw.g D.law_draw.F.kp D.law_draw.b .nil pass0 (pa_cons (pv 0) (pa_cons (pe_callB (k_len (K := K) rfl) (by rfl) T.b_len PySem.boot_len (pa_cons (pv 3) pa_nil)) pa_nil))) (fun _ _ => rfl)) pa_nil)) pa_nil))))) pss_nil)
    (pss_one (ps_ret (pe_tup (pa_cons pe_str (pa_cons pe_non pa_nil))))))))))), ?_⟩
  refine' body_m h ?ds (by decide) ?hm
  case ds => exact (ds_seq (ds_set (de_lst da_nil))
    (ds_seq (ds_for di_varT dg_name (ds_set (de_op dr_cat (de_var 5) (de_lc (di_eT (de_op dr_ixT (de_var 6) de_int)) dg_name (dt_test (de_op dr_eqS (de_op dr_eqD (de_op dr_ixT (de_var 7) de_int) (de_str (by decide +kernel))) (de_var 4))) (de_tup (da_cons (de_op dr_ixT (de_var 6) de_int) (da_cons (de_op dr_ixT (de_var 7) de_int) da_nil))) (by decide)))))
    (ds_seq (ds_set (de_call (da_cons (de_var 0) (da_cons de_int da_nil))))
    (ds_seq (ds_ifs (dt_and (dt_test (de_op dr_gt (de_var 8) de_int)) (dt_tru (de_var 5))) (ds_seq (ds_set (de_op dr_ixL (de_var 5) (de_call (da_cons (de_var 0) (da_cons (de_cb dc_len (da_cons (de_var 5) da_nil)) da_nil)))))
    (ds_ret (de_tup (da_cons (de_str (by decide +kernel)) (da_cons (de_op dr_ixT (de_var 9) de_int) (da_cons (de_op dr_ixT (de_var 9) de_int) da_nil)))))) ds_next)
    (ds_seq (ds_ifs (dt_and (dt_test (de_op dr_gt (de_var 8) de_int)) (dt_and (dt_b (de_var 4)) (dt_tru (de_var 2)))) (ds_ret (de_tup (da_cons (de_str (by decide +kernel)) (da_cons (de_op dr_ixL (de_var 2) (de_call (da_cons (de_var 0) (da_cons (de_cb dc_len (da_cons (de_var 2) da_nil)) da_nil)))) da_nil)))) ds_next)
    (ds_seq (ds_ifs (dt_and (dt_test (de_op dr_gt (de_var 8) de_int)) (dt_and (dt_tru (de_var 3)) (dt_not (dt_b (de_var 4))))) (ds_ret (de_tup (da_cons (de_str (by decide +kernel)) (da_cons (de_tup (da_cons (de_op dr_ixL (de_var 3) (de_call (da_cons (de_var 0) (da_cons (de_cb dc_len (da_cons (de_var 3) da_nil)) da_nil)))) da_nil)) da_nil)))) ds_next)
    (ds_ret (de_tup (da_cons (de_str (by decide +kernel)) (da_cons de_non da_nil))))))))))
  case hm =>
    clear h hr
    intro dvs Qm hF
    obtain ⟨Ts, pl, ws, tx, rfl, po, hq⟩ := hF
    try simp only [List.map_cons, List.map_nil, List.cons_append, List.nil_append, List.length_cons, List.length_nil, Nat.reduceAdd, Nat.reduceSub, List.replicate_succ, List.replicate_zero]
    walk_at "m"
    refine loop (l := Ts) (f := Tab.d) (fun k ε => ∃ (fs : List (Str × Str)) (y6 y7 : Option DV), ε = [some DV.tp, some (DV.d (tabsD Ts)), some (DV.l false false (sL pl)), some (DV.l false false (sL ws)), some (DV.d (PyData.bool tx)), some (DV.l true true (fs.map fun p => .tuple [.str p.1, .str p.2])), y6, y7, none, none] ∧ (∀ p ∈ fs, HasCol Ts tx p.1 p.2) ∧ fs.length ≤ colN (Ts.take k)) ⟨[], none, none, rfl, by simp, Nat.zero_le _⟩ ?_ ?_
    · rintro k T ε hT ⟨fs, y6, y7, rfl, hf, fl⟩
      have mT := List.mem_of_getElem? hT
      have cT := colN_mem mT
      have tk : colN (Ts.take (k + 1)) = colN (Ts.take k) + T.cols.length := by rw [List.take_add_one, hT]; exact colN_snoc _ _
      have tk2 := colN_take Ts (k + 1)
      have few := po.tb.few
      walk_at "m"
      refine lc_fm (l := T.cols) (f := Col.d) (fun c => decide (c.isT = tx)) (fun c => .tuple [.str T.name, .str c.name]) (by omega) (fun c hc P N hP hN => ?_) ?_
      · walk_at "m"
        refine ⟨kd_depth c, by decide, ?_⟩
        walk_at "m"
        rw [eqv_text]
        refine cnd (fun e => ?_) (fun e => hN (by simp [e]))
        walk_at "m"
        exact hP (by simp [e])
      · walk_at "m"
        have fl2 := List.length_filter_le (fun c => decide (c.isT = tx)) T.cols
        refine ⟨fits (by rw [List.length_map, List.length_map]; omega), ?_⟩
        walk_at "m"
        refine ⟨fs ++ ((T.cols.filter fun c => decide (c.isT = tx)).map fun c => (T.name, c.name)), _, _, by rw [List.map_append, List.map_map]; rfl, ?_, by rw [List.length_append, List.length_map]; omega⟩
        intro p m
        rcases List.mem_append.mp m with m | m
        · exact hf p m
        · obtain ⟨c, hc, rfl⟩ := List.mem_map.mp m
          have := List.mem_filter.mp hc
          exact ⟨T, mT, rfl, c, this.1, rfl, by simpa using this.2⟩
    · rintro ε ⟨fs, y6, y7, rfl, hf, fl⟩
      have few := po.tb.few
      have fe := colN_take Ts Ts.length
      walk_at "m"
      refine ⟨6, rfl, by decide, fun n n0 n1 => ?_⟩
      refine ⟨rfl, ?_⟩
      dsimp only
      refine cut (fun ε => ε = [some DV.tp, some (DV.d (tabsD Ts)), some (DV.l false false (sL pl)), some (DV.l false false (sL ws)), some (DV.d (PyData.bool tx)), some (DV.l true true (fs.map fun p => .tuple [.str p.1, .str p.2])), y6, y7, some (DV.d (PyData.int n)), none]) (fun N hN => ?_) (fun ε h => ?_)
      · walk_at "m"
        refine cnd (fun c1 => ?_) (fun c1 => ?_)
        · walk_at "m"
          refine cndB (fun c2 => ?_) (fun c2 => ?_)
          · have z0 := pos_of c2 rfl
            rw [List.length_map] at z0
            walk_at "m"
            refine ⟨_, rfl, by rw [List.length_map]; omega, fun k k0 k1 => ?_⟩
            rw [List.length_map] at k1
            obtain ⟨p, mp, ep⟩ := at0 (xs := fs) k0 (by omega)
            walk_at "m"
            rw [ep]
            walk_at "m"
            refine hq (.col p.1 p.2) ?_ (hf p mp)
            obtain ⟨U, mU, eU, C, mC, eC, _⟩ := hf p mp
            exact ⟨eU ▸ (po.tb.ok U mU).name, eC ▸ ((po.tb.ok U mU).cols C mC).name⟩
          · walk_at "m"
            exact hN _ rfl
        · walk_at "m"
          refine ⟨?_⟩
          walk_at "m"
          exact hN _ rfl
      · subst h
        refine cut (fun ε => ε = [some DV.tp, some (DV.d (tabsD Ts)), some (DV.l false false (sL pl)), some (DV.l false false (sL ws)), some (DV.d (PyData.bool tx)), some (DV.l true true (fs.map fun p => .tuple [.str p.1, .str p.2])), y6, y7, some (DV.d (PyData.int n)), none]) (fun N hN => ?_) (fun ε h => ?_)
        · walk_at "m"
          refine cnd (fun c1 => ?_) (fun c1 => ?_)
          · walk_at "m"
            refine cndB (fun c2 => ?_) (fun c2 => ?_)
            · walk_at "m"
              refine cndB (fun c3 => ?_) (fun c3 => ?_)
              · have z0 := pos_of c3 rfl
                rw [List.length_map] at z0
                walk_at "m"
                refine ⟨_, rfl, by have := po.pn; rw [List.length_map]; omega, fun k k0 k1 => ?_⟩
                rw [List.length_map] at k1
                obtain ⟨z, mz, ez⟩ := at0 (xs := pl) k0 (by omega)
                walk_at "m"
                rw [ez]
                walk_at "m"
                exact hq (.cell (.txt z)) (po.pt z mz) ⟨c2, mz⟩
              · exact hN _ rfl
            · walk_at "m"
              refine ⟨?_⟩
              walk_at "m"
              exact hN _ rfl
          · walk_at "m"
            refine ⟨?_⟩
            walk_at "m"
            exact hN _ rfl
        · subst h
          refine cut (fun ε => ε = [some DV.tp, some (DV.d (tabsD Ts)), some (DV.l false false (sL pl)), some (DV.l false false (sL ws)), some (DV.d (PyData.bool tx)), some (DV.l true true (fs.map fun p => .tuple [.str p.1, .str p.2])), y6, y7, some (DV.d (PyData.int n)), none]) (fun N hN => ?_) (fun ε h => ?_)
          · walk_at "m"
            refine cnd (fun c1 => ?_) (fun c1 => ?_)
            · walk_at "m"
              refine cndB (fun c3 => ?_) (fun c3 => ?_)
              · have z0 := pos_of c3 rfl
                rw [List.length_map] at z0
                walk_at "m"
                refine cndB (fun c2 => ?_) (fun c2 => ?_)
                · walk_at "m"
                  refine ⟨_, rfl, by have := po.wn; rw [List.length_map]; omega, fun k k0 k1 => ?_⟩
                  rw [List.length_map] at k1
                  obtain ⟨z, mz, ez⟩ := at0 (xs := ws) k0 (by omega)
                  walk_at "m"
                  rw [ez]
                  walk_at "m"
                  exact hq (.cell (.val z)) (po.wt z mz) ⟨by simpa using c2, mz⟩
                · exact hN _ rfl
              · walk_at "m"
                refine ⟨?_⟩
                walk_at "m"
                exact hN _ rfl
            · walk_at "m"
              refine ⟨?_⟩
              walk_at "m"
              exact hN _ rfl
          · subst h
            walk_at "m"
            exact hq (.cell .null) trivial trivial
end
end K10
namespace K10
open PySem PySem.Spec PyProof.Rows L2 Tq
open Mx
section
variable {P : Program} {w : World} {K : PySem.W.Frag} {mg : Str → Option Value} {base : Heap} [Mx.Tb] [Mx.Bs base mg]

theorem ok_law_condition (D : Ds K mg) (T : Txt mg) : ∀ d : Nat, FnOk P w K mg base CX0 (d + 5) D.law_condition.f D.law_condition.fd ["tape", "tables", "pool", "words", "deep"] (spM w K 5 (fCond d))
  | 0 => (D.law_condition.F.ok sc_law_condition (k := 0) (fun vs H Q E h => h.1) (fun cdv A outer s H vs Q E hr h => (no_m h (fun _ _ z => z)).elim)).mono (by omega)
  | d + 1 => by
    have ih := ok_law_condition D T d
    have sc := sc_law_condition
    refine D.law_condition.F.ok sc (fun vs H Q E h => h.1) (fun cdv A outer s H vs Q E hr h => ?_)
    refine ⟨_, (pss_cons (ps_set (i := 5) sc.nd rfl (Or.inl rfl) (pe_call (om_law_draw (w := w) (base := base) D T) (hr.mono (by omega)) (by rfl) D.law_draw.g D.law_draw.F.kp D.law_draw.b .nil pass0 (pa_cons (pv 0) (pa_cons pe_int pa_nil))))
    (pss_cons (ps_if (PW.pt (pw_and (pt_cmpR o_gt (pv 4) pe_int (nomark _)) (pw_and1 (pt_cmpR op_eq (pv 5) pe_int (nomark _))))) (pss_one (ps_ret (pe_tup (pa_cons pe_str (pa_cons (pe_call ih (hr.mono (by omega)) (by rfl) D.law_condition.g D.law_condition.F.kp D.law_condition.b .nil pass0 (pa_cons (pv 0) (pa_cons (pv 1) (pa_cons (pv 2) (pa_cons (pv 3) (pa_cons (pe_op o_sub (pv 4) pe_int) pa_nil)))))) pa_nil))))) pss_nil)
    (pss_cons (ps_if (PW.pt (pw_and (pt_cmpR o_gt (pv 4) pe_int (nomark _)) (pw_and1 (pt_cmpR o_lt (pv 5) pe_int (nomark _))))) (pss_cons (ps_set (i := 6) sc.nd rfl (Or.inl rfl) (pe_lst pa_nil))
    (pss_cons (ps_set (i := 7) sc.nd rfl (Or.inl rfl) (pe_ix (k_ixL (K := K) rfl) (pe_lst (pa_cons pe_int (pa_cons pe_int (pa_cons pe_int (pa_cons pe_int (pa_cons pe_int (pa_cons pe_int pa_nil))))))) (pe_call (om_law_draw (w := w) (base := base) D T) (hr.mono (by omega)) (by rfl) D.law_draw.g D.law_draw.F.kp D.law_draw.b .nil pass0 (pa_cons (pv 0) (pa_cons (pe_ix (k_ixL (K := K) rfl) (pe_lst (pa_cons pe_int (pa_cons pe_int pa_nil))) (pe_callTy c_intB (by rfl) T.b_int (by decide +kernel) (pa_cons (pe_cmpR op_eq (pv 4) pe_int (nomark _)) pa_nil)) (fun _ _ => rfl)) pa_nil))) (fun _ _ => rfl)))
    (pss_cons (ps_for PassesOwn.never rfl (pi_range1 (by rfl) T.b_range (pa_cons (pv 7) pa_nil)) (pg_name (i := 8) sc.nd rfl (Or.inl rfl)) (pss_one (ps_expr (pe_bm PySem.F.plainAttrs_list PySem.F.slot_list_append PySem.F.type_list_append mt_append (pv 6) (pa_cons (pe_call ih (hr.mono (by omega)) (by rfl) D.law_condition.g D.law_condition.F.kp D.law_condition.b .nil pass0 (pa_cons (pv 0) (pa_cons (pv 1) (pa_cons (pv 2) (pa_cons (pv 3) (pa_cons (pe_op o_sub (pv 4) pe_int) pa_nil)))))) pa_nil)))))
    (pss_one (ps_ret (pe_tup (pa_cons (pe_ix (k_ixL (K := K) rfl) (pe_lst (pa_cons pe_str (pa_cons pe_str pa_nil))) (pe_op o_mod (pe_callTy c_int (by rfl) T.b_int (by decide +kernel) (pa_cons (pv 5) pa_nil)) pe_int) (fun _ _ => rfl)) (pa_cons (pe_callTy (k_tuple (K := K) rfl) (by rfl) T.b_tuple (by decide +kernel) (pa_cons (pv 6) pa_nil)) pa_nil)))))))) pss_nil)
    (pss_cons (ps_if (pt_cmpR op_eq (pv 5) pe_int (nomark _)) (pss_one (ps_ret (pe_ix (k_ixL (K := K) rfl) (pe_lst (pa_cons (pe_tup (pa_cons pe_str pa_nil)) (pa_cons (pe_tup (pa_cons pe_str pa_nil)) (pa_cons (pe_tup (pa_cons pe_str (pa_cons (pe_ix (k_ixT (K := K) rfl) (pe_ix (k_ixT (K := K) rfl) (pv 1) (pe_call (om_law_draw (w := w) (base := base) D T) (hr.mono (by omega)) (by rfl) D.law_draw.g D.law_draw.F.kp D.law_draw.b .nil pass0 (pa_cons (pv 0) (pa_cons (pe_callB (k_len (K := K) rfl) (by rfl) T.b_len PySem.boot_len (pa_cons (pv 1) pa_nil)) pa_nil))) (fun _ _ => rfl)) pe_int (fun _ _ => rfl)) pa_nil))) pa_nil)))) (pe_call (om_law_draw (w := w) (base := base) D T) (hr.mono (by omega)) (by rfl) D.law_draw.g D.law_draw.F.kp D.law_draw.b .nil pass0 (pa_cons (pv 0) (pa_cons pe_int pa_nil))) (fun _ _ => rfl)))) pss_nil)
    (pss_cons (ps_set (i := 9) sc.nd rfl (Or.inl rfl) (pe_cmpR o_gt (pe_call (om_law_draw (w := w) (base := base) D T) (hr.mono (by omega)) (by rfl) D.law_draw.g D.law_draw.F.kp D.law_draw.b .nil pass0 (pa_cons (pv 0) (pa_cons pe_int pa_nil))) pe_int (nomark _)))
    (pss_cons (ps_if (pt_not (pt_truth (pe_call (om_law_textual (w := w) (base := base) D T) (hr.mono (by omega)) (by rfl) D.law_textual.g D.law_textual.F.kp D.law_textual.b .nil pass0 (pa_cons (pv 1) pa_nil)) (by intro _; rfl))) (pss_one (ps_set (i := 9) sc.nd rfl (Or.inl rfl) pe_bl)) pss_nil)
    (pss_cons (ps_set (i := 10) sc.nd rfl (Or.inl rfl) (pe_call (ok_law_operand (w := w) (base := base) D T) (hr.mono (by omega)) (by rfl) D.law_operand.g D.law_operand.F.kp D.law_operand.b .nil pass0 (pa_cons (pv 0) (pa_cons (pv 1) (pa_cons (pv 2) (pa_cons (pv 3) (pa_cons (pv 9) pa_nil)))))))
    (pss_one (ps_ret (pe_tup (pa_cons (pe_ix (k_ixL (K := K) rfl) (pe_lst (pa_cons pe_str (pa_cons pe_str pa_nil))) (pe_call (om_law_draw (w := w) (base := base) D T) (hr.mono (by omega)) (by rfl) D.law_draw.g D.law_draw.F.kp D.law_draw.b .nil pass0 (pa_cons (pv 0) (pa_cons pe_int pa_nil))) (fun _ _ => rfl)) (pa_cons (pv 10) (pa_cons (pe_call (ok_law_operand (w := w) (base := base) D T) (hr.mono (by omega)) (by rfl) D.law_operand.g D.law_operand.F.kp D.law_operand.b .nil pass0 (pa_cons (pv 0) (pa_cons (pv 1) (pa_cons (pv 2) (pa_cons (pv 3) (pa_cons (pv 9) pa_nil)))))) pa_nil))))))))))))), ?_⟩
    refine' body_m h ?ds (by decide) ?hm
    case ds => exact (ds_seq (ds_set (de_call (da_cons (de_var 0) (da_cons de_int da_nil))))
    (ds_seq (ds_ifs (dt_and (dt_test (de_op dr_gt (de_var 4) de_int)) (dt_test (de_op dr_eqS (de_var 5) de_int))) (ds_ret (de_tup (da_cons (de_str (by decide +kernel)) (da_cons (de_call (da_cons (de_var 0) (da_cons (de_var 1) (da_cons (de_var 2) (da_cons (de_var 3) (da_cons (de_op dr_sub (de_var 4) de_int) da_nil)))))) da_nil)))) ds_next)
    (ds_seq (ds_ifs (dt_and (dt_test (de_op dr_gt (de_var 4) de_int)) (dt_test (de_op dr_lt (de_var 5) de_int))) (ds_seq (ds_set (de_lst da_nil))
    (ds_seq (ds_set (de_op dr_ixL (de_lst (da_cons de_int (da_cons de_int (da_cons de_int (da_cons de_int (da_cons de_int (da_cons de_int da_nil))))))) (de_call (da_cons (de_var 0) (da_cons (de_op dr_ixL (de_lst (da_cons de_int (da_cons de_int da_nil))) (de_cb dc_intB (da_cons (de_op dr_eqS (de_var 4) de_int) da_nil))) da_nil)))))
    (ds_seq (ds_for (di_rng1 (da_cons (de_var 7) da_nil)) dg_name (ds_app (de_call (da_cons (de_var 0) (da_cons (de_var 1) (da_cons (de_var 2) (da_cons (de_var 3) (da_cons (de_op dr_sub (de_var 4) de_int) da_nil))))))))
    (ds_ret (de_tup (da_cons (de_op dr_ixL (de_lst (da_cons (de_str (by decide +kernel)) (da_cons (de_str (by decide +kernel)) da_nil))) (de_op dr_mod (de_cb dc_int (da_cons (de_var 5) da_nil)) de_int)) (da_cons (de_cb dc_tuple (da_cons (de_var 6) da_nil)) da_nil))))))) ds_next)
    (ds_seq (ds_ifs (dt_test (de_op dr_eqS (de_var 5) de_int)) (ds_ret (de_op dr_ixL (de_lst (da_cons (de_tup (da_cons (de_str (by decide +kernel)) da_nil)) (da_cons (de_tup (da_cons (de_str (by decide +kernel)) da_nil)) (da_cons (de_tup (da_cons (de_str (by decide +kernel)) (da_cons (de_op dr_ixT (de_op dr_ixT (de_var 1) (de_call (da_cons (de_var 0) (da_cons (de_cb dc_len (da_cons (de_var 1) da_nil)) da_nil)))) de_int) da_nil))) da_nil)))) (de_call (da_cons (de_var 0) (da_cons de_int da_nil))))) ds_next)
    (ds_seq (ds_set (de_op dr_gt (de_call (da_cons (de_var 0) (da_cons de_int da_nil))) de_int))
    (ds_seq (ds_ifs (dt_not (dt_tru (de_call (da_cons (de_var 1) da_nil)))) (ds_set de_bl) ds_next)
    (ds_seq (ds_set (de_call (da_cons (de_var 0) (da_cons (de_var 1) (da_cons (de_var 2) (da_cons (de_var 3) (da_cons (de_var 9) da_nil)))))))
    (ds_ret (de_tup (da_cons (de_op dr_ixL (de_lst (da_cons (de_str (by decide +kernel)) (da_cons (de_str (by decide +kernel)) da_nil))) (de_call (da_cons (de_var 0) (da_cons de_int da_nil)))) (da_cons (de_var 10) (da_cons (de_call (da_cons (de_var 0) (da_cons (de_var 1) (da_cons (de_var 2) (da_cons (de_var 3) (da_cons (de_var 9) da_nil)))))) da_nil))))))))))))
    case hm =>
      clear h hr
      intro dvs Qm hF
      obtain ⟨Ts, pl, ws, dp, rfl, po, d0, d1, hq⟩ := hF
      try simp only [List.map_cons, List.map_nil, List.cons_append, List.nil_append, List.length_cons, List.length_nil, Nat.reduceAdd, Nat.reduceSub, List.replicate_succ, List.replicate_zero]
      walk_at "m"
      refine ⟨10, rfl, by decide, fun n n0 n1 => ?_⟩
      refine ⟨rfl, ?_⟩
      dsimp only
      refine cutE (fun N hN => ?_) ?_
      · walk_at "m"
        refine cnd (fun c1 => ?_) (fun c1 => ?_)
        · walk_at "m"
          refine cnd (fun c2 => ?_) (fun c2 => ?_)
          · walk_at "m"
            obtain ⟨e, rfl⟩ : ∃ e, d = e + 1 := ⟨d - 1, by omega⟩
            refine ⟨Ts, pl, ws, dp - 1, rfl, po, by omega, by omega, fun tr ok cn dep nd => ?_⟩
            walk_at "m"
            have ec := cb_up c1
            exact hq (.neg tr) ok cn (by show tr.dep + 1 ≤ _; omega) (by show tr.nd + 1 ≤ _; omega)
          · exact hN
        · walk_at "no"
      · refine cutE (fun N hN => ?_) ?_
        · walk_at "m"
          refine cnd (fun c1 => ?_) (fun c1 => ?_)
          · walk_at "m"
            refine cnd (fun c2 => ?_) (fun c2 => ?_)
            · walk_at "m"
              obtain ⟨v, ev, v4, v6⟩ := pickI (n := if decide (dp = 1) = true then 1 else 0) [4, 6] 4 6 (by decide) (by split <;> omega) (by show _ < (2 : Int); split <;> omega)
              have ev : atI [PyData.int 4, PyData.int 6] (if decide (dp = 1) = true then 1 else 0) = some (.int v) := ev
              rw [ev]
              walk_at "m"
              refine ⟨v, rfl, by omega, fun j j0 j1 => ?_⟩
              walk_at "m"
              obtain ⟨u, eu, u2, u6⟩ := pickI [2, 2, 2, 3, 2, 6] 2 6 (by decide) j0 (by show _ < (6 : Int); omega)
              have eu : atI [PyData.int 2, PyData.int 2, PyData.int 2, PyData.int 3, PyData.int 2, PyData.int 6] j = some (.int u) := eu
              rw [eu]
              walk_at "m"
              refine ⟨by omega, by omega, ?_⟩
              obtain ⟨e, rfl⟩ : ∃ e, d = e + 1 := ⟨d - 1, by omega⟩
              refine loopR (fun k ε => ∃ (ts : List Tr) (y7 : Option DV), ε = [some DV.tp, some (DV.d (tabsD Ts)), some (DV.l false false (sL pl)), some (DV.l false false (sL ws)), some (DV.d (PyData.int dp)), some (DV.d (PyData.int n)), some (DV.l true true (ts.map Tr.d)), some (DV.d (PyData.int u)), y7, none, none] ∧ ts.length = k ∧ ∀ t ∈ ts, t.Ok ∧ t.Cn Ts pl ∧ t.dep ≤ dp.toNat + 1 ∧ t.nd ≤ cb (dp - 1).toNat) ⟨[], none, rfl, rfl, by simp⟩ ?_ ?_
              · rintro k ε hk ⟨ts, y7, rfl, tl, ht⟩
                walk_at "m"
                refine ⟨Ts, pl, ws, dp - 1, rfl, po, by omega, by omega, fun tr ok cn dep nd => ?_⟩
                walk_at "m"
                refine ⟨by rw [List.length_map]; exact fits_lt (by omega), ?_⟩
                walk_at "m"
                refine ⟨ts ++ [tr], _, by rw [List.map_append]; rfl, by simp [tl], fun t m => ?_⟩
                rcases List.mem_append.mp m with m | m
                · exact ht t m
                · rw [List.mem_singleton.mp m]; exact ⟨ok, cn, by omega, nd⟩
              · rintro ε ⟨ts, y7, rfl, tl, ht⟩
                walk_at "m"
                have m2 := fmod_lt n0 (show (0 : Int) < 2 by decide)
                obtain ⟨c, ec⟩ := pick2 (PyData.str "and") (PyData.str "or") m2.1 m2.2
                rw [ec]
                walk_at "m"
                have e2 : (if c = true then PyData.str "and" else PyData.str "or") = PyData.str (if c = true then "and" else "or") := by cases c <;> rfl
                rw [e2]
                refine cast (congrArg Qm ?_) (hq (.jn c ts) ⟨by omega, (trsOk_iff ts).mpr fun t m => (ht t m).1⟩ ⟨by intro e; rw [e] at tl; have : (0 : Nat) = u.toNat := tl; omega, trsCn_iff.mpr fun t m => (ht t m).2.1⟩ (by
                  show trsDep ts + 1 ≤ _
                  have := trsDep_le.mpr fun t m => (ht t m).2.2.1
                  omega) (by
                  show trsNd ts + 1 ≤ _
                  have ec := cb_up c1
                  have h1 := trsNd_le fun t m => (ht t m).2.2.2
                  have h2 : ts.length * cb (dp - 1).toNat ≤ 6 * cb (dp - 1).toNat := Nat.mul_le_mul_right _ (by omega)
                  omega))
                show DV.d (.tuple [.str (if c = true then "and" else "or"), .tuple (trsD ts)]) = _
                rw [trsD_map]
            · exact hN
          · walk_at "no"
        · refine cutE (fun N hN => ?_) ?_
          · walk_at "m"
            refine cnd (fun c1 => ?_) (fun c1 => ?_)
            · walk_at "m"
              have few := po.tb.len
              have tz : 0 < Ts.length := List.length_pos_iff.mpr po.tb.some
              refine ⟨_, rfl, by rw [List.length_map]; omega, fun k k0 k1 => ?_⟩
              rw [List.length_map] at k1
              obtain ⟨T, mT, eT⟩ := at0 (xs := Ts) k0 (by omega)
              walk_at "m"
              rw [eT]
              walk_at "m"
              refine ⟨3, rfl, by decide, fun j j0 j1 => ?_⟩
              walk_at "m"
              have : j = 0 ∨ j = 1 ∨ j = 2 := by omega
              rcases this with rfl | rfl | rfl
              · exact hq .tru trivial trivial (by show 1 ≤ _; omega) (by have := cb_3 dp.toNat; show 1 ≤ _; omega)
              · exact hq .fls trivial trivial (by show 1 ≤ _; omega) (by have := cb_3 dp.toNat; show 1 ≤ _; omega)
              · exact hq (.ex T.name) (po.tb.ok T mT).name (List.mem_map.mpr ⟨T, mT, rfl⟩) (by show 1 ≤ _; omega) (by have := cb_3 dp.toNat; show 1 ≤ _; omega)
            · exact hN
          · walk_at "m"
            refine ⟨3, rfl, by decide, fun k k0 k1 => ?_⟩
            refine ⟨rfl, ?_⟩
            dsimp only
            refine cut (fun ε => ∃ tx : Bool, ε = [some DV.tp, some (DV.d (tabsD Ts)), some (DV.l false false (sL pl)), some (DV.l false false (sL ws)), some (DV.d (PyData.int dp)), some (DV.d (PyData.int n)), none, none, none, some (DV.d (PyData.bool tx)), none]) (fun N hN => ?_) ?_
            · walk_at "m"
              refine ⟨Ts, rfl, by have := po.tb.few; omega, ?_⟩
              walk_at "m"
              refine cndB (fun c1 => ?_) (fun c1 => ?_)
              · walk_at "m"
                exact hN _ ⟨false, rfl⟩
              · exact hN _ ⟨_, rfl⟩
            · rintro ε ⟨tx, rfl⟩
              walk_at "m"
              refine ⟨Ts, pl, ws, tx, rfl, po, fun o1 ok1 in1 => ?_⟩
              walk_at "m"
              refine ⟨2, rfl, by decide, fun k k0 k1 => ?_⟩
              walk_at "m"
              obtain ⟨c, ec⟩ := pick2 (PyData.str "=") (PyData.str "!=") k0 (by omega)
              rw [ec]
              walk_at "m"
              refine ⟨Ts, pl, ws, tx, rfl, po, fun o2 ok2 in2 => ?_⟩
              walk_at "m"
              have e2 : (if c = true then PyData.str "=" else PyData.str "!=") = PyData.str (if c = true then "=" else "!=") := by cases c <;> rfl
              rw [e2]
              exact hq (.cmp c o1 o2) ⟨ok1, ok2⟩ ⟨tx, ws, in1, in2⟩ (by show 2 ≤ _; omega) (cb_3 _)
end
end K10
namespace K10
open PySem PySem.Spec PyProof.Rows L2 Tq
open Mx
section
variable {P : Program} {w : World} {K : PySem.W.Frag} {mg : Str → Option Value} {base : Heap} [Mx.Tb] [Mx.Bs base mg]

theorem ok_law_expression (D : Ds K mg) (T : Txt mg) : ∀ d : Nat, FnOk P w K mg base CX0 (d + 11) D.law_expression.f D.law_expression.fd ["tape", "tables", "pool", "words", "textual", "deep"] (spM w K 6 (fExpr d))
  | 0 => (D.law_expression.F.ok sc_law_expression (k := 0) (fun vs H Q E h => h.1) (fun cdv A outer s H vs Q E hr h => (no_m h (fun _ _ z => z)).elim)).mono (by omega)
  | d + 1 => by
    have ih := ok_law_expression D T d
    have sc := sc_law_expression
    refine D.law_expression.F.ok sc (fun vs H Q E h => h.1) (fun cdv A outer s H vs Q E hr h => ?_)
    refine ⟨_, (pss_cons (ps_if (PW.pt (pw_or (pt_cmpR op_eq (pv 5) pe_int (nomark _)) (pw_or1 (pt_cmpR o_gt (pe_call (om_law_draw (w := w) (base := base) D T) (hr.mono (by omega)) (by rfl) D.law_draw.g D.law_draw.F.kp D.law_draw.b .nil pass0 (pa_cons (pv 0) (pa_cons pe_int pa_nil))) pe_int (nomark _))))) (pss_one (ps_ret (pe_call (ok_law_operand (w := w) (base := base) D T) (hr.mono (by omega)) (by rfl) D.law_operand.g D.law_operand.F.kp D.law_operand.b .nil pass0 (pa_cons (pv 0) (pa_cons (pv 1) (pa_cons (pv 2) (pa_cons (pv 3) (pa_cons (pv 4) pa_nil)))))))) pss_nil)
    (pss_cons (ps_set (i := 6) sc.nd rfl (Or.inl rfl) (pe_lst pa_nil))
    (pss_cons (ps_for PassesOwn.never rfl (pi_range1 (by rfl) T.b_range (pa_cons (pe_ix (k_ixL (K := K) rfl) (pe_lst (pa_cons pe_int (pa_cons pe_int (pa_cons pe_int (pa_cons pe_int pa_nil))))) (pe_call (om_law_draw (w := w) (base := base) D T) (hr.mono (by omega)) (by rfl) D.law_draw.g D.law_draw.F.kp D.law_draw.b .nil pass0 (pa_cons (pv 0) (pa_cons (pe_ix (k_ixL (K := K) rfl) (pe_lst (pa_cons pe_int (pa_cons pe_int pa_nil))) (pe_callTy c_intB (by rfl) T.b_int (by decide +kernel) (pa_cons (pe_cmpR op_eq (pv 5) pe_int (nomark _)) pa_nil)) (fun _ _ => rfl)) pa_nil))) (fun _ _ => rfl)) pa_nil)) (pg_name (i := 7) sc.nd rfl (Or.inl rfl)) (pss_cons (ps_set (i := 8) sc.nd rfl (Or.inl rfl) (pe_call (ok_law_condition (w := w) (base := base) D T 5) (hr.mono (by omega)) (by rfl) D.law_condition.g D.law_condition.F.kp D.law_condition.b .nil pass0 (pa_cons (pv 0) (pa_cons (pv 1) (pa_cons (pv 2) (pa_cons (pe_call (om_law_value_words (w := w) (base := base) D T) (hr.mono (by omega)) (by rfl) D.law_value_words.g D.law_value_words.F.kp D.law_value_words.b .nil pass0 (pa_cons (pv 1) pa_nil)) (pa_cons pe_int pa_nil)))))))
    (pss_one (ps_expr (pe_bm PySem.F.plainAttrs_list PySem.F.slot_list_append PySem.F.type_list_append mt_append (pv 6) (pa_cons (pe_tup (pa_cons (pv 8) (pa_cons (pe_call ih (hr.mono (by omega)) (by rfl) D.law_expression.g D.law_expression.F.kp D.law_expression.b .nil pass0 (pa_cons (pv 0) (pa_cons (pv 1) (pa_cons (pv 2) (pa_cons (pv 3) (pa_cons (pv 4) (pa_cons (pe_op o_sub (pv 5) pe_int) pa_nil))))))) pa_nil))) pa_nil))))))
    (pss_one (ps_ret (pe_tup (pa_cons pe_str (pa_cons (pe_callTy (k_tuple (K := K) rfl) (by rfl) T.b_tuple (by decide +kernel) (pa_cons (pv 6) pa_nil)) (pa_cons (pe_call (ok_law_operand (w := w) (base := base) D T) (hr.mono (by omega)) (by rfl) D.law_operand.g D.law_operand.F.kp D.law_operand.b .nil pass0 (pa_cons (pv 0) (pa_cons (pv 1) (pa_cons (pv 2) (pa_cons (pv 3) (pa_cons (pv 4) pa_nil)))))) pa_nil))))))))), ?_⟩
    refine' body_m h ?ds (by decide) ?hm
    case ds => exact (ds_seq (ds_ifs (dt_or (dt_test (de_op dr_eqS (de_var 5) de_int)) (dt_test (de_op dr_gt (de_call (da_cons (de_var 0) (da_cons de_int da_nil))) de_int))) (ds_ret (de_call (da_cons (de_var 0) (da_cons (de_var 1) (da_cons (de_var 2) (da_cons (de_var 3) (da_cons (de_var 4) da_nil))))))) ds_next)
    (ds_seq (ds_set (de_lst da_nil))
    (ds_seq (ds_for (di_rng1 (da_cons (de_op dr_ixL (de_lst (da_cons de_int (da_cons de_int (da_cons de_int (da_cons de_int da_nil))))) (de_call (da_cons (de_var 0) (da_cons (de_op dr_ixL (de_lst (da_cons de_int (da_cons de_int da_nil))) (de_cb dc_intB (da_cons (de_op dr_eqS (de_var 5) de_int) da_nil))) da_nil)))) da_nil)) dg_name (ds_seq (ds_set (de_call (da_cons (de_var 0) (da_cons (de_var 1) (da_cons (de_var 2) (da_cons (de_call (da_cons (de_var 1) da_nil)) (da_cons de_int da_nil)))))))
    (ds_app (de_tup (da_cons (de_var 8) (da_cons (de_call (da_cons (de_var 0) (da_cons (de_var 1) (da_cons (de_var 2) (da_cons (de_var 3) (da_cons (de_var 4) (da_cons (de_op dr_sub (de_var 5) de_int) da_nil))))))) da_nil))))))
    (ds_ret (de_tup (da_cons (de_str (by decide +kernel)) (da_cons (de_cb dc_tuple (da_cons (de_var 6) da_nil)) (da_cons (de_call (da_cons (de_var 0) (da_cons (de_var 1) (da_cons (de_var 2) (da_cons (de_var 3) (da_cons (de_var 4) da_nil)))))) da_nil))))))))
    case hm =>
      clear h hr
      intro dvs Qm hF
      obtain ⟨Ts, pl, ws, tx, dp, rfl, po, d0, d1, hq⟩ := hF
      try simp only [List.map_cons, List.map_nil, List.cons_append, List.nil_append, List.length_cons, List.length_nil, Nat.reduceAdd, Nat.reduceSub, List.replicate_succ, List.replicate_zero]
      walk_at "m"
      have few := po.tb.few
      have vw : ∀ (U : List Str → Prop), (∀ ws, (∀ z ∈ ws, IsName z) → ws.length ≤ 4001 → U ws) → ∀ ws : List Str, ws ≠ [] → ws.length ≤ 4001 → (∀ z ∈ ws, IsName z) → U ws := fun U h ws _ l n => h ws n l
      have rest : ∀ D : MEnds, D.rt = Qm → 0 < dp → ∃ e, d = e + 1 := fun D _ h => ⟨d - 1, by omega⟩
      refine cnd (fun c1 => ?_) (fun c1 => ?_)
      · walk_at "m"
        refine cndT rfl ?_
        walk_at "m"
        refine ⟨Ts, pl, ws, tx, rfl, po, fun o ok oin => ?_⟩
        exact hq (.op o) ok oin (by show 1 ≤ _; omega) (eb_1 _)
      · walk_at "m"
        refine ⟨3, rfl, by decide, fun n n0 n1 => ?_⟩
        walk_at "m"
        refine cnd (fun c2 => ?_) (fun c2 => ?_)
        · walk_at "m"
          refine ⟨Ts, pl, ws, tx, rfl, po, fun o ok oin => ?_⟩
          exact hq (.op o) ok oin (by show 1 ≤ _; omega) (eb_1 _)
        · walk_at "m"
          obtain ⟨v, ev, v4, v6⟩ := pickI (n := if decide (dp = 1) = true then 1 else 0) [3, 4] 3 4 (by decide) (by split <;> omega) (by show _ < (2 : Int); split <;> omega)
          have ev : atI [PyData.int 3, PyData.int 4] (if decide (dp = 1) = true then 1 else 0) = some (.int v) := ev
          rw [ev]
          walk_at "m"
          refine ⟨v, rfl, by omega, fun j j0 j1 => ?_⟩
          walk_at "m"
          obtain ⟨u, eu, u2, u6⟩ := pickI [1, 1, 2, 4] 1 4 (by decide) j0 (by show _ < (4 : Int); omega)
          have eu : atI [PyData.int 1, PyData.int 1, PyData.int 2, PyData.int 4] j = some (.int u) := eu
          rw [eu]
          walk_at "m"
          refine ⟨by omega, by omega, ?_⟩
          obtain ⟨e, rfl⟩ : ∃ e, d = e + 1 := ⟨d - 1, by omega⟩
          refine loopR (fun k ε => ∃ (ts : List (Tr × Tr)) (y7 y8 : Option DV), ε = [some DV.tp, some (DV.d (tabsD Ts)), some (DV.l false false (sL pl)), some (DV.l false false (sL ws)), some (DV.d (PyData.bool tx)), some (DV.d (PyData.int dp)), some (DV.l true true (ts.map fun p => .tuple [p.1.d, p.2.d])), y7, y8] ∧ ts.length = k ∧ ∀ t ∈ ts, (t.1.Ok ∧ t.2.Ok) ∧ (t.1.Cn Ts pl ∧ t.2.Ex Ts pl ws tx) ∧ (t.1.dep ≤ dp.toNat + 2 ∧ t.2.dep ≤ dp.toNat + 2) ∧ t.1.nd + t.2.nd ≤ 19 + eb (dp - 1).toNat) ⟨[], none, none, rfl, rfl, by simp⟩ ?_ ?_
          · rintro k ε hk ⟨ts, y7, y8, rfl, tl, ht⟩
            walk_at "m"
            refine ⟨Ts, rfl, fun t m c hc => (po.tb.ok t m).cols c hc, by omega, fun vs v0 vl vn => ?_⟩
            walk_at "m"
            refine ⟨Ts, pl, vs, 1, rfl, ⟨po.tb, po.pt, vn, po.pn, by omega⟩, by decide, by decide, fun t1 ok1 cn1 dep1 nd1 => ?_⟩
            have e1 : (1 : Int).toNat = 1 := rfl
            walk_at "m"
            refine ⟨Ts, pl, ws, tx, dp - 1, rfl, po, by omega, by omega, fun t2 ok2 ex2 dep2 nd2 => ?_⟩
            walk_at "m"
            refine ⟨by rw [List.length_map]; exact fits_lt (by omega), ?_⟩
            walk_at "m"
            refine ⟨ts ++ [(t1, t2)], _, _, by rw [List.map_append]; rfl, by simp [tl], fun t m => ?_⟩
            rcases List.mem_append.mp m with m | m
            · exact ht t m
            · rw [List.mem_singleton.mp m]
              refine ⟨⟨ok1, ok2⟩, ⟨cn1, ex2⟩, ⟨?_, ?_⟩, ?_⟩
              · show t1.dep ≤ dp.toNat + 2
                omega
              · show t2.dep ≤ dp.toNat + 2
                omega
              · show t1.nd + t2.nd ≤ _
                have c1 : cb (1 : Int).toNat = 19 := rfl
                omega
          · rintro ε ⟨ts, y7, y8, rfl, tl, ht⟩
            walk_at "m"
            refine ⟨Ts, pl, ws, tx, rfl, po, fun o ok oin => ?_⟩
            walk_at "m"
            have tu : (ts.length : Nat) = u.toNat := tl
            refine cast (congrArg Qm ?_) (hq (.ite ts (.op o)) ⟨by omega, (brsOk_iff ts).mpr fun t m => (ht t m).1, ok⟩ ⟨by intro e; rw [e] at tu; have : (0 : Nat) = u.toNat := tu; omega, brsEx_iff.mpr fun t m => (ht t m).2.1, oin, o, rfl⟩ (by
              show max (brsDep ts) 1 + 1 ≤ _
              have := brsDep_le.mpr fun t m => (ht t m).2.2.1
              omega) (by
              show brsNd ts + 1 + 1 ≤ _
              have ec := eb_up (show 0 < dp by omega)
              have h1 := brsNd_le fun t m => (ht t m).2.2.2
              have h2 : ts.length * (19 + eb (dp - 1).toNat) ≤ 4 * (19 + eb (dp - 1).toNat) := Nat.mul_le_mul_right _ (by omega)
              omega))
            show DV.d (.tuple [.str "if", .tuple (brsD ts), o.d]) = _
            rw [brsD_map]
end
end K10
namespace K10
open PySem PySem.Spec PyProof.Rows L2 Tq
open Mx
section
variable {P : Program} {w : World} {K : PySem.W.Frag} {mg : Str → Option Value} {base : Heap} [Mx.Tb] [Mx.Bs base mg]

theorem ok_law_shape (D : Ds K mg) (T : Txt mg) : FnOk P w K mg base CX0 2 D.law_shape.f D.law_shape.fd ["tape", "tables", "texts"] (spM w K 3 (fShape)) := by
  have sc := sc_law_shape
  refine D.law_shape.F.ok sc (fun vs H Q E h => h.1) (fun cdv A outer s H vs Q E hr h => ?_)
  refine ⟨_, (pss_cons (ps_set (i := 3) sc.nd rfl (Or.inl rfl) (pe_lst pa_nil))
    (pss_cons (ps_for PassesOwn.never rfl (k_piT (K := K) rfl (pv 1)) (pg_name (i := 4) sc.nd rfl (Or.inl rfl)) (pss_cons (ps_set (i := 5) sc.nd rfl (Or.inl rfl) (pe_lst pa_nil))
    (pss_cons (ps_for PassesOwn.never rfl (k_piT (K := K) rfl (pe_ix (k_ixT (K := K) rfl) (pv 4) pe_int (fun _ _ => rfl))) (pg_name (i := 6) sc.nd rfl (Or.inl rfl)) (pss_cons (ps_set (i := 7) sc.nd rfl (Or.inl rfl) (pe_op op_cat (pe_callTy (k_list (K := K) rfl) (by rfl) T.b_list (by decide +kernel) (pa_cons (pv 2) pa_nil)) (pe_lst (pa_cons pe_non pa_nil))))
    (pss_cons (ps_if (pt_cmpR (k_neD (K := K) rfl hr.units) (pe_ix (k_ixT (K := K) rfl) (pv 6) pe_int (fun _ _ => rfl)) pe_str (nomark _)) (pss_one (ps_set (i := 7) sc.nd rfl (Or.inl rfl) (pe_op op_cat (pe_lc (own := [("word", 8)]) rfl sc.nd (k_piT (K := K) rfl (pe_ix (k_ixT (K := K) rfl) (pv 6) pe_int (fun _ _ => rfl))) (blkOk_by (N := ["tape", "tables", "texts", "rows", "table", "cells", "column", "kind", "word"]) (sc := defScope s_law_shape) (by decide +kernel)) (fun _ _ _ _ _ => (pg_name (i := 8) sc.nd rfl (Or.inl rfl))) (fun _ _ _ _ _ => pts_nil) (fun _ _ _ _ _ => (pe_tup (pa_cons (pv 8) pa_nil)))) (pe_lst (pa_cons (pe_tup (pa_cons pe_str pa_nil)) (pa_cons pe_non pa_nil)))))) pss_nil)
    (pss_one (ps_expr (pe_bm PySem.F.plainAttrs_list PySem.F.slot_list_append PySem.F.type_list_append mt_append (pv 5) (pa_cons (pe_ix (k_ixL (K := K) rfl) (pv 7) (pe_call (om_law_draw (w := w) (base := base) D T) hr (by rfl) D.law_draw.g D.law_draw.F.kp D.law_draw.b .nil pass0 (pa_cons (pv 0) (pa_cons (pe_callB (k_len (K := K) rfl) (by rfl) T.b_len PySem.boot_len (pa_cons (pv 7) pa_nil)) pa_nil))) (fun _ _ => rfl)) pa_nil)))))))
    (pss_one (ps_if (pt_cmpR op_eq (pe_call (om_law_draw (w := w) (base := base) D T) hr (by rfl) D.law_draw.g D.law_draw.F.kp D.law_draw.b .nil pass0 (pa_cons (pv 0) (pa_cons pe_int pa_nil))) pe_int (nomark _)) (pss_one (ps_expr (pe_bm PySem.F.plainAttrs_list PySem.F.slot_list_append PySem.F.type_list_append mt_append (pv 3) (pa_cons pe_non pa_nil)))) (pss_one (ps_expr (pe_bm PySem.F.plainAttrs_list PySem.F.slot_list_append PySem.F.type_list_append mt_append (pv 3) (pa_cons (pe_callTy (k_tuple (K := K) rfl) (by rfl) T.b_tuple (by decide +kernel) (pa_cons (pv 5) pa_nil)) pa_nil)))))))))
    (pss_one (ps_ret (pe_callTy (k_tuple (K := K) rfl) (by rfl) T.b_tuple (by decide +kernel) (pa_cons (pv 3) pa_nil)))))), ?_⟩
  refine' body_m h ?ds (by decide) ?hm
  case ds => exact (ds_seq (ds_set (de_lst da_nil))
    (ds_seq (ds_for di_varT dg_name (ds_seq (ds_set (de_lst da_nil))
    (ds_seq (ds_for (di_eT (de_op dr_ixT (de_var 4) de_int)) dg_name (ds_seq (ds_set (de_op dr_cat (de_cb dc_list (da_cons (de_var 2) da_nil)) (de_lst (da_cons de_non da_nil))))
    (ds_seq (ds_ifs (dt_test (de_op dr_neD (de_op dr_ixT (de_var 6) de_int) (de_str (by decide +kernel)))) (ds_set (de_op dr_cat (de_lc (di_eT (de_op dr_ixT (de_var 6) de_int)) dg_name dt_yes (de_tup (da_cons (de_var 8) da_nil)) (by decide)) (de_lst (da_cons (de_tup (da_cons (de_str (by decide +kernel)) da_nil)) (da_cons de_non da_nil))))) ds_next)
    (ds_app (de_op dr_ixL (de_var 7) (de_call (da_cons (de_var 0) (da_cons (de_cb dc_len (da_cons (de_var 7) da_nil)) da_nil))))))))
    (ds_ifs (dt_test (de_op dr_eqS (de_call (da_cons (de_var 0) (da_cons de_int da_nil))) de_int)) (ds_app de_non) (ds_app (de_cb dc_tuple (da_cons (de_var 5) da_nil)))))))
    (ds_ret (de_cb dc_tuple (da_cons (de_var 3) da_nil)))))
  case hm =>
    clear h hr
    intro dvs Qm hF
    obtain ⟨Ts, pl, rfl, tb, pt, pn, hq⟩ := hF
    try simp only [List.map_cons, List.map_nil, List.cons_append, List.nil_append, List.length_cons, List.length_nil, Nat.reduceAdd, Nat.reduceSub, List.replicate_succ, List.replicate_zero]
    walk_at "m"
    refine loop (l := Ts) (f := Tab.d) (fun k ε => ∃ (R : List CRow) (y4 y5 y6 y7 : Option DV), ε = [some DV.tp, some (.d (tabsD Ts)), some (.l false false (sL pl)), some (.l true true (R.map rowD)), y4, y5, y6, y7, none] ∧ R.length = k ∧ ∀ (i : Nat) T cs, Ts[i]? = some T → R[i]? = some (some cs) → RowK pl T cs) ⟨[], none, none, none, none, rfl, rfl, fun i T cs _ h => by simp at h⟩ ?_ ?_
    · rintro k T ε hT ⟨R, y4, y5, y6, y7, rfl, Rl, hR⟩
      have mT := List.mem_of_getElem? hT
      have cf := colN_mem mT
      have few := tb.few
      have tl := tb.len
      have kl := (List.getElem?_eq_some_iff.mp hT).1
      have snoc : ∀ r : CRow, (∀ cs, r = some cs → RowK pl T cs) → ∀ (i : Nat) T cs, Ts[i]? = some T → (R ++ [r])[i]? = some (some cs) → RowK pl T cs := fun r hr i T' cs h1 h2 => by
        rcases snoc_get Rl h2 with ⟨_, h⟩ | ⟨rfl, h⟩
        · exact hR i T' cs h1 h
        · rw [hT] at h1
          cases h1
          exact hr cs h.symm
      walk_at "m"
      refine loop (l := T.cols) (f := Col.d) (fun j ε => ∃ (cs : List Cel) (y6 y7 : Option DV), ε = [some DV.tp, some (.d (tabsD Ts)), some (.l false false (sL pl)), some (.l true true (R.map rowD)), some (.d T.d), some (.l true true (cs.map Cel.d)), y6, y7, none] ∧ cs.length = j ∧ ∀ (i : Nat) C x, T.cols[i]? = some C → cs[i]? = some x → CelK pl C x) ⟨[], y6, y7, rfl, rfl, fun i C x _ h => by simp at h⟩ ?_ ?_
      · rintro j C ε hC ⟨cs, y6, y7, rfl, cl, hc⟩
        have mC := List.mem_of_getElem? hC
        have jl := (List.getElem?_eq_some_iff.mp hC).1
        have Cok := (tb.ok T mT).cols C mC
        walk_at "m"
        refine ⟨fits (by rw [List.length_map]; show _ + 1 ≤ _; omega), ?_⟩
        refine ⟨rfl, ?_⟩
        dsimp only
        refine cut (fun ε => ∃ xs : List Cel, ε = [some DV.tp, some (.d (tabsD Ts)), some (.l false false (sL pl)), some (.l true true (R.map rowD)), some (.d T.d), some (.l true true (cs.map Cel.d)), some (.d C.d), some (.l true true (xs.map Cel.d)), none] ∧ xs ≠ [] ∧ xs.length ≤ 10001 ∧ ∀ x ∈ xs, CelK pl C x) (fun N hN => ?_) ?_
        · walk_at "m"
          refine ⟨kd_depth C, Nat.zero_le _, ?_⟩
          rw [eqv_kd]
          cases ek : C.kind with
          | none =>
            have e : C.isT = true := by unfold Col.isT; rw [ek]; rfl
            rw [e]
            refine cndF rfl ?_
            walk_at "m"
            refine hN _ ⟨pl.map Cel.txt ++ [.null], by rw [List.map_append, cels_txt]; rfl, by simp, by rw [List.length_append, List.length_map]; show _ + 1 ≤ _; omega, fun x m => ?_⟩
            rcases List.mem_append.mp m with m | m
            · obtain ⟨z, mz, rfl⟩ := List.mem_map.mp m
              exact ⟨e, mz⟩
            · rw [List.mem_singleton.mp m]; trivial
          | some vs =>
            have e : C.isT = false := by unfold Col.isT; rw [ek]; rfl
            have ekd : C.kd = .tuple (vs.map .str) := by unfold Col.kd; rw [ek]
            obtain ⟨v0, v1, v2⟩ := Cok.vals vs ek
            rw [e]
            refine cndT rfl ?_
            walk_at "m"
            rw [ekd]
            refine lc_mp (l := vs) (f := .str) (fun z => .tuple [.str z]) (by omega) (fun z hz P N2 hP => ?_) ?_
            · walk_at "m"
              refine cndT rfl ?_
              walk_at "m"
              exact hP
            · walk_at "m"
              refine ⟨fits (by rw [List.length_map]; show _ + 2 ≤ _; omega), ?_⟩
              walk_at "m"
              refine hN _ ⟨vs.map Cel.val ++ [.val "unknown_value", .null], by rw [List.map_append, cels_val]; rfl, by simp, by rw [List.length_append, List.length_map]; show _ + 2 ≤ _; omega, fun x m => ?_⟩
              rcases List.mem_append.mp m with m | m
              · obtain ⟨z, mz, rfl⟩ := List.mem_map.mp m
                exact ⟨e, v2 z mz⟩
              · rcases List.mem_cons.mp m with rfl | m
                · exact ⟨e, unk_name⟩
                · rw [List.mem_singleton.mp m]; trivial
        · rintro ε ⟨xs, rfl, x0, xl, hx⟩
          walk_at "m"
          refine ⟨_, rfl, by rw [List.length_map]; omega, fun n n0 n1 => ?_⟩
          walk_at "m"
          rw [List.length_map] at n1
          have xp := List.length_pos_iff.mpr x0
          obtain ⟨x, mx, ex⟩ := at0 (xs := xs) n0 (by omega)
          rw [ex]
          walk_at "m"
          refine ⟨by rw [List.length_map]; exact fits_lt (by omega), ?_⟩
          walk_at "m"
          refine ⟨cs ++ [x], _, _, by rw [List.map_append]; rfl, by simp [cl], fun i C' y h1 h2 => ?_⟩
          rcases snoc_get cl h2 with ⟨_, h⟩ | ⟨rfl, rfl⟩
          · exact hc i C' y h1 h
          · rw [hC] at h1
            cases h1
            exact hx _ mx
      · rintro ε ⟨cs, y6, y7, rfl, cl, hc⟩
        walk_at "m"
        refine ⟨4, rfl, by decide, fun n n0 n1 => ?_⟩
        walk_at "m"
        refine cnd (fun c => ?_) (fun c => ?_)
        · walk_at "m"
          refine ⟨by rw [List.length_map]; exact fits_lt (by omega), ?_⟩
          walk_at "m"
          exact ⟨R ++ [none], _, _, _, _, by rw [List.map_append]; rfl, by simp [Rl], snoc none (fun cs h => nomatch h)⟩
        · walk_at "m"
          refine ⟨by rw [List.length_map]; exact fits_lt (by omega), ?_⟩
          walk_at "m"
          exact ⟨R ++ [some cs], _, _, _, _, by rw [List.map_append]; rfl, by simp [Rl], snoc (some cs) (fun cs' h => by cases h; exact ⟨cl, hc⟩)⟩
    · rintro ε ⟨R, y4, y5, y6, y7, rfl, Rl, hR⟩
      walk_at "m"
      exact hq R ⟨Rl, hR⟩
end
end K10
namespace K10
open PySem PySem.Spec PyProof.Rows L2 Tq
open Mx
section
variable {P : Program} {w : World} {K : PySem.W.Frag} {mg : Str → Option Value} {base : Heap} [Mx.Tb] [Mx.Bs base mg]

theorem ok_law_cell (D : Ds K mg) (T : Txt mg) : FnOk P w K mg base CX0 1 D.law_cell.f D.law_cell.fd ["tables", "operand", "record"] (spM w K 3 (fLCell)) := by
  have sc := sc_law_cell
  refine D.law_cell.F.ok sc (fun vs H Q E h => h.1) (fun cdv A outer s H vs Q E hr h => ?_)
  refine ⟨_, (pss_cons (ps_if (pt_cmpR op_eq (pe_ix (k_ixT (K := K) rfl) (pv 1) pe_int (fun _ _ => rfl)) pe_str (nomark _)) (pss_one (ps_ret (pe_ix (k_ixT (K := K) rfl) (pv 1) pe_int (fun _ _ => rfl)))) pss_nil)
    (pss_cons (ps_for PassesOwn.never rfl (pi_range1 (by rfl) T.b_range (pa_cons (pe_callB (k_len (K := K) rfl) (by rfl) T.b_len PySem.boot_len (pa_cons (pv 0) pa_nil)) pa_nil)) (pg_name (i := 3) sc.nd rfl (Or.inl rfl)) (pss_one (ps_if (PW.pt (pw_and (pt_cmpR (k_eqD (K := K) rfl hr.units) (pe_ix (k_ixT (K := K) rfl) (pe_ix (k_ixT (K := K) rfl) (pv 0) (pv 3) (fun _ _ => rfl)) pe_int (fun _ _ => rfl)) (pe_ix (k_ixT (K := K) rfl) (pv 1) pe_int (fun _ _ => rfl)) (nomark _)) (pw_and1 (pt_cmpR o_notN (pe_ix (k_ixT (K := K) rfl) (pv 2) (pv 3) (fun _ _ => rfl)) pe_non (nomark _))))) (pss_one (ps_for PassesOwn.never rfl (pi_range1 (by rfl) T.b_range (pa_cons (pe_callB (k_len (K := K) rfl) (by rfl) T.b_len PySem.boot_len (pa_cons (pe_ix (k_ixT (K := K) rfl) (pe_ix (k_ixT (K := K) rfl) (pv 0) (pv 3) (fun _ _ => rfl)) pe_int (fun _ _ => rfl)) pa_nil)) pa_nil)) (pg_name (i := 4) sc.nd rfl (Or.inl rfl)) (pss_one (ps_if (pt_cmpR op_eq (pe_ix (k_ixT (K := K) rfl) (pe_ix (k_ixT (K := K) rfl) (pe_ix (k_ixT (K := K) rfl) (pe_ix (k_ixT (K := K) rfl) (pv 0) (pv 3) (fun _ _ => rfl)) pe_int (fun _ _ => rfl)) (pv 4) (fun _ _ => rfl)) pe_int (fun _ _ => rfl)) (pe_ix (k_ixT (K := K) rfl) (pv 1) pe_int (fun _ _ => rfl)) (nomark _)) (pss_one (ps_ret (pe_ix (k_ixT (K := K) rfl) (pe_ix (k_ixT (K := K) rfl) (pv 2) (pv 3) (fun _ _ => rfl)) (pv 4) (fun _ _ => rfl)))) pss_nil)))) pss_nil)))
    (pss_one (ps_ret pe_non)))), ?_⟩
  refine' body_m h ?ds (by decide) ?hm
  case ds => exact (ds_seq (ds_ifs (dt_test (de_op dr_eqS (de_op dr_ixT (de_var 1) de_int) (de_str (by decide +kernel)))) (ds_ret (de_op dr_ixT (de_var 1) de_int)) ds_next)
    (ds_seq (ds_for (di_rng1 (da_cons (de_cb dc_len (da_cons (de_var 0) da_nil)) da_nil)) dg_name (ds_ifs (dt_and (dt_test (de_op dr_eqD (de_op dr_ixT (de_op dr_ixT (de_var 0) (de_var 3)) de_int) (de_op dr_ixT (de_var 1) de_int))) (dt_test (de_op dr_notN (de_op dr_ixT (de_var 2) (de_var 3)) de_non))) (ds_for (di_rng1 (da_cons (de_cb dc_len (da_cons (de_op dr_ixT (de_op dr_ixT (de_var 0) (de_var 3)) de_int) da_nil)) da_nil)) dg_name (ds_ifs (dt_test (de_op dr_eqS (de_op dr_ixT (de_op dr_ixT (de_op dr_ixT (de_op dr_ixT (de_var 0) (de_var 3)) de_int) (de_var 4)) de_int) (de_op dr_ixT (de_var 1) de_int))) (ds_ret (de_op dr_ixT (de_op dr_ixT (de_var 2) (de_var 3)) (de_var 4))) ds_next)) ds_next))
    (ds_ret de_non)))
  case hm =>
    clear h hr
    intro dvs Qm hF
    obtain ⟨Ts, o, R, rfl, fm, nn, hq⟩ := hF
    try simp only [List.map_cons, List.map_nil, List.cons_append, List.nil_append, List.length_cons, List.length_nil, Nat.reduceAdd, Nat.reduceSub, List.replicate_succ, List.replicate_zero]
    cases o with
    | cell c =>
      walk_at "k"
      exact hq
    | col t c =>
      have hq : Qm (.d (lookT Ts R t c).d) := hq
      have few := fm.few
      walk_at "k"
      refine ⟨by rw [List.length_map]; omega, by rw [List.length_map]; omega, ?_⟩
      rw [List.length_map]
      refine loopR (fun k ε => ∃ y3 y4 : Option DV, ε = [some (.d (tabsD Ts)), some (.d (Opd.col t c).d), some (.d (recD R)), y3, y4] ∧ lookT (Ts.drop k) (R.drop k) t c = lookT Ts R t c) ⟨none, none, rfl, rfl⟩ ?_ ?_
      · rintro k ε hk ⟨y3, y4, rfl, hl⟩
        have hk : k < Ts.length := hk
        obtain ⟨T, hT⟩ : ∃ T, Ts[k]? = some T := ⟨_, List.getElem?_eq_getElem hk⟩
        obtain ⟨r, hr⟩ := get_len hT fm.len
        have no := rest_no nn hT
        have cf := fm.cfew T (List.mem_of_getElem? hT)
        rw [drop_cons hT, drop_cons hr, lookT_cons] at hl
        rw [Int.zero_add]
        walk_at "m"
        rw [at_map hT]
        walk_at "m"
        refine cnd (fun c1 => ?_) (fun c1 => ?_)
        · rw [if_pos c1] at hl
          rw [c1] at no
          walk_at "m"
          rw [at_map hr]
          cases r with
          | none =>
            walk_at "m"
            refine cndF rfl ?_
            walk_at "m"
            exact ⟨_, _, rfl, (lookT_no _ no).trans hl⟩
          | some cs =>
            have hl : lookC T.cols cs c = lookT Ts R t c := hl
            have cl := fm.row k T cs hT hr
            walk_at "m"
            refine cndT rfl ?_
            walk_at "m"
            rw [at_map hT]
            walk_at "m"
            refine ⟨by rw [List.length_map]; omega, by rw [List.length_map]; omega, ?_⟩
            rw [List.length_map]
            refine loopR (fun j ε => ∃ y4 : Option DV, ε = [some (.d (tabsD Ts)), some (.d (Opd.col t c).d), some (.d (recD R)), some (.d (.int (k : Int))), y4] ∧ lookC (T.cols.drop j) (cs.drop j) c = lookT Ts R t c) ⟨_, rfl, hl⟩ ?_ ?_
            · rintro j ε hj ⟨y4, rfl, hm⟩
              have hj : j < T.cols.length := hj
              obtain ⟨C, hC⟩ : ∃ C, T.cols[j]? = some C := ⟨_, List.getElem?_eq_getElem hj⟩
              obtain ⟨x, hx⟩ := get_len hC cl
              rw [drop_cons hC, drop_cons hx] at hm
              have hm : (if C.name = c then x else lookC (T.cols.drop (j + 1)) (cs.drop (j + 1)) c) = _ := hm
              rw [Int.zero_add]
              walk_at "m"
              rw [at_map hT]
              walk_at "m"
              rw [at_map hC]
              walk_at "m"
              refine cnd (fun c2 => ?_) (fun c2 => ?_)
              · rw [if_pos c2] at hm
                walk_at "m"
                rw [at_map hr]
                walk_at "m"
                rw [at_map hx]
                walk_at "m"
                rw [hm]
                exact hq
              · rw [if_neg c2] at hm
                walk_at "m"
                exact ⟨_, rfl, hm⟩
            · rintro ε ⟨y4, rfl, hm⟩
              rw [Int.toNat_natCast, List.drop_eq_nil_of_le (Nat.le_refl _)] at hm
              exact ⟨_, _, rfl, (lookT_no _ no).trans hm⟩
        · rw [if_neg c1] at hl
          walk_at "m"
          exact ⟨_, _, rfl, hl⟩
      · rintro ε ⟨y3, y4, rfl, hl⟩
        rw [Int.toNat_natCast, List.drop_eq_nil_of_le (Nat.le_refl _)] at hl
        walk_at "m"
        rw [← hl] at hq
        exact hq
end
end K10
namespace K10
open PySem PySem.Spec PyProof.Rows L2 Tq
open Mx
section
variable {P : Program} {w : World} {K : PySem.W.Frag} {mg : Str → Option Value} {base : Heap} [Mx.Tb] [Mx.Bs base mg]

theorem ok_law_holds (D : Ds K mg) (T : Txt mg) : ∀ d : Nat, FnOk P w K mg base CX0 (d + 2) D.law_holds.f D.law_holds.fd ["tables", "condition", "record"] (spM w K 3 (fLHolds d))
  | 0 => (D.law_holds.F.ok sc_law_holds (k := 0) (fun vs H Q E h => h.1) (fun cdv A outer s H vs Q E hr h => (no_m h (fun _ _ z => z)).elim)).mono (by omega)
  | d + 1 => by
    have ih := ok_law_holds D T d
    have sc := sc_law_holds
    refine D.law_holds.F.ok sc (fun vs H Q E h => h.1) (fun cdv A outer s H vs Q E hr h => ?_)
    refine ⟨_, (pss_cons (ps_if (PW.pt (pw_or (pt_cmpR op_eq (pe_ix (k_ixT (K := K) rfl) (pv 1) pe_int (fun _ _ => rfl)) pe_str (nomark _)) (pw_or1 (pt_cmpR op_eq (pe_ix (k_ixT (K := K) rfl) (pv 1) pe_int (fun _ _ => rfl)) pe_str (nomark _))))) (pss_one (ps_ret (pe_cmpR op_eq (pe_ix (k_ixT (K := K) rfl) (pv 1) pe_int (fun _ _ => rfl)) pe_str (nomark _)))) pss_nil)
    (pss_cons (ps_if (pt_cmpR op_eq (pe_ix (k_ixT (K := K) rfl) (pv 1) pe_int (fun _ _ => rfl)) pe_str (nomark _)) (pss_cons (ps_for PassesOwn.never rfl (pi_range1 (by rfl) T.b_range (pa_cons (pe_callB (k_len (K := K) rfl) (by rfl) T.b_len PySem.boot_len (pa_cons (pv 0) pa_nil)) pa_nil)) (pg_name (i := 3) sc.nd rfl (Or.inl rfl)) (pss_one (ps_if (pt_cmpR (k_eqD (K := K) rfl hr.units) (pe_ix (k_ixT (K := K) rfl) (pe_ix (k_ixT (K := K) rfl) (pv 0) (pv 3) (fun _ _ => rfl)) pe_int (fun _ _ => rfl)) (pe_ix (k_ixT (K := K) rfl) (pv 1) pe_int (fun _ _ => rfl)) (nomark _)) (pss_one (ps_ret (pe_cmpR o_notN (pe_ix (k_ixT (K := K) rfl) (pv 2) (pv 3) (fun _ _ => rfl)) pe_non (nomark _)))) pss_nil)))
    (pss_one (ps_ret pe_bl))) pss_nil)
    (pss_cons (ps_if (PW.pt (pw_or (pt_cmpR op_eq (pe_ix (k_ixT (K := K) rfl) (pv 1) pe_int (fun _ _ => rfl)) pe_str (nomark _)) (pw_or1 (pt_cmpR op_eq (pe_ix (k_ixT (K := K) rfl) (pv 1) pe_int (fun _ _ => rfl)) pe_str (nomark _))))) (pss_cons (ps_set (i := 4) sc.nd rfl (Or.inl rfl) (pe_cmpR (k_eqD (K := K) rfl hr.units) (pe_call (ok_law_cell (w := w) (base := base) D T) (hr.mono (by omega)) (by rfl) D.law_cell.g D.law_cell.F.kp D.law_cell.b .nil pass0 (pa_cons (pv 0) (pa_cons (pe_ix (k_ixT (K := K) rfl) (pv 1) pe_int (fun _ _ => rfl)) (pa_cons (pv 2) pa_nil)))) (pe_call (ok_law_cell (w := w) (base := base) D T) (hr.mono (by omega)) (by rfl) D.law_cell.g D.law_cell.F.kp D.law_cell.b .nil pass0 (pa_cons (pv 0) (pa_cons (pe_ix (k_ixT (K := K) rfl) (pv 1) pe_int (fun _ _ => rfl)) (pa_cons (pv 2) pa_nil)))) (nomark _)))
    (pss_one (ps_ret (pe_cmpR op_eq (pv 4) (pe_cmpR op_eq (pe_ix (k_ixT (K := K) rfl) (pv 1) pe_int (fun _ _ => rfl)) pe_str (nomark _)) (nomark _))))) pss_nil)
    (pss_cons (ps_if (pt_cmpR op_eq (pe_ix (k_ixT (K := K) rfl) (pv 1) pe_int (fun _ _ => rfl)) pe_str (nomark _)) (pss_one (ps_ret (pe_not (pe_call ih (hr.mono (by omega)) (by rfl) D.law_holds.g D.law_holds.F.kp D.law_holds.b .nil pass0 (pa_cons (pv 0) (pa_cons (pe_ix (k_ixT (K := K) rfl) (pv 1) pe_int (fun _ _ => rfl)) (pa_cons (pv 2) pa_nil))))))) pss_nil)
    (pss_cons (ps_for PassesOwn.never rfl (k_piT (K := K) rfl (pe_ix (k_ixT (K := K) rfl) (pv 1) pe_int (fun _ _ => rfl))) (pg_name (i := 5) sc.nd rfl (Or.inl rfl)) (pss_one (ps_if (pt_cmpR op_ne (pe_call ih (hr.mono (by omega)) (by rfl) D.law_holds.g D.law_holds.F.kp D.law_holds.b .nil pass0 (pa_cons (pv 0) (pa_cons (pv 5) (pa_cons (pv 2) pa_nil)))) (pe_cmpR op_eq (pe_ix (k_ixT (K := K) rfl) (pv 1) pe_int (fun _ _ => rfl)) pe_str (nomark _)) (nomark _)) (pss_one (ps_ret (pe_cmpR op_eq (pe_ix (k_ixT (K := K) rfl) (pv 1) pe_int (fun _ _ => rfl)) pe_str (nomark _)))) pss_nil)))
    (pss_one (ps_ret (pe_cmpR op_eq (pe_ix (k_ixT (K := K) rfl) (pv 1) pe_int (fun _ _ => rfl)) pe_str (nomark _))))))))), ?_⟩
    refine' body_m h ?ds (by decide) ?hm
    case ds => exact (ds_seq (ds_ifs (dt_or (dt_test (de_op dr_eqS (de_op dr_ixT (de_var 1) de_int) (de_str (by decide +kernel)))) (dt_test (de_op dr_eqS (de_op dr_ixT (de_var 1) de_int) (de_str (by decide +kernel))))) (ds_ret (de_op dr_eqS (de_op dr_ixT (de_var 1) de_int) (de_str (by decide +kernel)))) ds_next)
    (ds_seq (ds_ifs (dt_test (de_op dr_eqS (de_op dr_ixT (de_var 1) de_int) (de_str (by decide +kernel)))) (ds_seq (ds_for (di_rng1 (da_cons (de_cb dc_len (da_cons (de_var 0) da_nil)) da_nil)) dg_name (ds_ifs (dt_test (de_op dr_eqD (de_op dr_ixT (de_op dr_ixT (de_var 0) (de_var 3)) de_int) (de_op dr_ixT (de_var 1) de_int))) (ds_ret (de_op dr_notN (de_op dr_ixT (de_var 2) (de_var 3)) de_non)) ds_next))
    (ds_ret de_bl)) ds_next)
    (ds_seq (ds_ifs (dt_or (dt_test (de_op dr_eqS (de_op dr_ixT (de_var 1) de_int) (de_str (by decide +kernel)))) (dt_test (de_op dr_eqS (de_op dr_ixT (de_var 1) de_int) (de_str (by decide +kernel))))) (ds_seq (ds_set (de_op dr_eqD (de_call (da_cons (de_var 0) (da_cons (de_op dr_ixT (de_var 1) de_int) (da_cons (de_var 2) da_nil)))) (de_call (da_cons (de_var 0) (da_cons (de_op dr_ixT (de_var 1) de_int) (da_cons (de_var 2) da_nil))))))
    (ds_ret (de_op dr_eqS (de_var 4) (de_op dr_eqS (de_op dr_ixT (de_var 1) de_int) (de_str (by decide +kernel)))))) ds_next)
    (ds_seq (ds_ifs (dt_test (de_op dr_eqS (de_op dr_ixT (de_var 1) de_int) (de_str (by decide +kernel)))) (ds_ret (de_notV (de_call (da_cons (de_var 0) (da_cons (de_op dr_ixT (de_var 1) de_int) (da_cons (de_var 2) da_nil)))))) ds_next)
    (ds_seq (ds_for (di_eT (de_op dr_ixT (de_var 1) de_int)) dg_name (ds_ifs (dt_test (de_op dr_neS (de_call (da_cons (de_var 0) (da_cons (de_var 5) (da_cons (de_var 2) da_nil)))) (de_op dr_eqS (de_op dr_ixT (de_var 1) de_int) (de_str (by decide +kernel))))) (ds_ret (de_op dr_eqS (de_op dr_ixT (de_var 1) de_int) (de_str (by decide +kernel)))) ds_next))
    (ds_ret (de_op dr_eqS (de_op dr_ixT (de_var 1) de_int) (de_str (by decide +kernel)))))))))
    case hm =>
      clear h hr
      intro dvs Qm hF
      obtain ⟨Ts, pl, tr, R, rfl, fm, nn, ok, cn, dep, hq⟩ := hF
      try simp only [List.map_cons, List.map_nil, List.cons_append, List.nil_append, List.length_cons, List.length_nil, Nat.reduceAdd, Nat.reduceSub, List.replicate_succ, List.replicate_zero]
      cases tr with
      | tru =>
        walk_at "k"
        exact hq
      | fls =>
        walk_at "k"
        exact hq
      | ex t =>
        have hq : Qm (.d (.bool (hasRow Ts R t))) := hq
        have few := fm.few
        walk_at "k"
        refine ⟨by rw [List.length_map]; omega, by rw [List.length_map]; omega, ?_⟩
        rw [List.length_map]
        refine loopR (fun k ε => ∃ y3 : Option DV, ε = [some (.d (tabsD Ts)), some (.d (Tr.d (.ex t))), some (.d (recD R)), y3, none, none] ∧ hasRow (Ts.drop k) (R.drop k) t = hasRow Ts R t) ⟨none, rfl, rfl⟩ ?_ ?_
        · rintro k ε hk ⟨y3, rfl, hl⟩
          have hk : k < Ts.length := hk
          obtain ⟨T, hT⟩ : ∃ T, Ts[k]? = some T := ⟨_, List.getElem?_eq_getElem hk⟩
          obtain ⟨r, hr⟩ := get_len hT fm.len
          rw [drop_cons hT, drop_cons hr, hasRow_cons] at hl
          rw [Int.zero_add]
          walk_at "m"
          rw [at_map hT]
          walk_at "m"
          refine cnd (fun c1 => ?_) (fun c1 => ?_)
          · rw [if_pos c1] at hl
            walk_at "m"
            rw [at_map hr]
            rw [← hl] at hq
            cases r with
            | none =>
              walk_at "m"
              exact hq
            | some cs =>
              walk_at "m"
              exact hq
          · rw [if_neg c1] at hl
            walk_at "m"
            exact ⟨_, rfl, hl⟩
        · rintro ε ⟨y3, rfl, hl⟩
          rw [Int.toNat_natCast, List.drop_eq_nil_of_le (Nat.le_refl _)] at hl
          rw [← hl] at hq
          walk_at "m"
          exact hq
      | cmp e l r =>
        have hq : Qm (.d (.bool (celEq (l.ev Ts R) (r.ev Ts R) == e))) := hq
        rw [← celEq_eqv] at hq
        have eb : ∀ e : Bool, decide ((if e = true then Str.ofString "=" else Str.ofString "!=") = Str.ofString "=") = e := by intro e; cases e <;> decide +kernel
        cases e <;>
        · walk_at "k"
          refine ⟨Ts, l, R, rfl, fm, nn, ?_⟩
          walk_at "k"
          refine ⟨Ts, r, R, rfl, fm, nn, ?_⟩
          walk_at "k"
          refine ⟨Nat.le_trans (cel_depth _) (by decide), Nat.le_trans (cel_depth _) (by decide), ?_⟩
          walk_at "k"
          rw [eb]
          generalize PyData.eqv _ _ = b at hq ⊢
          cases b <;> exact hq
      | neg a =>
        have d2 : a.dep + 1 ≤ d := dep
        obtain ⟨j, rfl⟩ : ∃ j, d = j + 1 := ⟨d - 1, by omega⟩
        walk_at "k"
        refine ⟨Ts, pl, a, R, rfl, fm, nn, ok, cn, by omega, ?_⟩
        walk_at "k"
        exact hq
      | jn c ps =>
        have d2 : trsDep ps + 1 ≤ d := dep
        obtain ⟨j, rfl⟩ : ∃ j, d = j + 1 := ⟨d - 1, by omega⟩
        have cn2 := trsCn_iff.mp cn.2
        have ok2 := (trsOk_iff ps).mp ok.2
        cases c with
        | true =>
          have hq : Qm (.d (.bool (trsAll Ts R ps))) := hq
          walk_at "k"
          rw [trsD_map]
          refine loop (l := ps) (f := Tr.d) (fun k ε => ∃ y5 : Option DV, ε = [some (.d (tabsD Ts)), some (.d (Tr.d (.jn true ps))), some (.d (recD R)), none, none, y5] ∧ trsAll Ts R (ps.drop k) = trsAll Ts R ps) ⟨_, rfl, rfl⟩ ?_ ?_
          · rintro k p ε hp ⟨y5, rfl, hl⟩
            have mp := List.mem_of_getElem? hp
            rw [drop_cons hp] at hl
            walk_at "k"
            refine ⟨Ts, pl, p, R, rfl, fm, nn, ok2 p mp, cn2 p mp, ?_, ?_⟩
            · have := trsDep_le.mp (Nat.le_refl (trsDep ps)) p mp
              omega
            walk_at "k"
            rw [show decide ((if true = true then Str.ofString "and" else Str.ofString "or") = Str.ofString "and") = true from by decide +kernel]
            have hl : (p.ev Ts R && trsAll Ts R (ps.drop (k + 1))) = trsAll Ts R ps := hl
            cases ep : p.ev Ts R with
            | true =>
              rw [ep] at hl
              refine cndF rfl ?_
              walk_at "k"
              exact ⟨_, rfl, hl⟩
            | false =>
              rw [ep] at hl
              refine cndT rfl ?_
              rw [← hl] at hq
              walk_at "k"
              exact hq
          · rintro ε ⟨y5, rfl, hl⟩
            rw [List.drop_eq_nil_of_le (Nat.le_refl _)] at hl
            rw [← hl] at hq
            walk_at "k"
            exact hq
        | false =>
          have hq : Qm (.d (.bool (trsAny Ts R ps))) := hq
          walk_at "k"
          rw [trsD_map]
          refine loop (l := ps) (f := Tr.d) (fun k ε => ∃ y5 : Option DV, ε = [some (.d (tabsD Ts)), some (.d (Tr.d (.jn false ps))), some (.d (recD R)), none, none, y5] ∧ trsAny Ts R (ps.drop k) = trsAny Ts R ps) ⟨_, rfl, rfl⟩ ?_ ?_
          · rintro k p ε hp ⟨y5, rfl, hl⟩
            have mp := List.mem_of_getElem? hp
            rw [drop_cons hp] at hl
            walk_at "k"
            refine ⟨Ts, pl, p, R, rfl, fm, nn, ok2 p mp, cn2 p mp, ?_, ?_⟩
            · have := trsDep_le.mp (Nat.le_refl (trsDep ps)) p mp
              omega
            walk_at "k"
            rw [show decide ((if false = true then Str.ofString "and" else Str.ofString "or") = Str.ofString "and") = false from by decide +kernel]
            have hl : (p.ev Ts R || trsAny Ts R (ps.drop (k + 1))) = trsAny Ts R ps := hl
            cases ep : p.ev Ts R with
            | false =>
              rw [ep] at hl
              refine cndF rfl ?_
              walk_at "k"
              exact ⟨_, rfl, hl⟩
            | true =>
              rw [ep] at hl
              refine cndT rfl ?_
              rw [← hl] at hq
              walk_at "k"
              exact hq
          · rintro ε ⟨y5, rfl, hl⟩
            rw [List.drop_eq_nil_of_le (Nat.le_refl _)] at hl
            rw [← hl] at hq
            walk_at "k"
            exact hq
      | op o => exact cn.elim
      | ite ps e => exact cn.elim
end
end K10
namespace K10
open PySem PySem.Spec PyProof.Rows L2 Tq
open Mx
section
variable {P : Program} {w : World} {K : PySem.W.Frag} {mg : Str → Option Value} {base : Heap} [Mx.Tb] [Mx.Bs base mg]

theorem ok_law_given (D : Ds K mg) (T : Txt mg) : ∀ d : Nat, FnOk P w K mg base CX0 (d + 27) D.law_given.f D.law_given.fd ["tables", "expression", "record"] (spM w K 3 (fLGiven d))
  | 0 => (D.law_given.F.ok sc_law_given (k := 0) (fun vs H Q E h => h.1) (fun cdv A outer s H vs Q E hr h => (no_m h (fun _ _ z => z)).elim)).mono (by omega)
  | d + 1 => by
    have ih := ok_law_given D T d
    have sc := sc_law_given
    refine D.law_given.F.ok sc (fun vs H Q E h => h.1) (fun cdv A outer s H vs Q E hr h => ?_)
    refine ⟨_, (pss_cons (ps_if (pt_cmpR op_ne (pe_ix (k_ixT (K := K) rfl) (pv 1) pe_int (fun _ _ => rfl)) pe_str (nomark _)) (pss_one (ps_ret (pe_call (ok_law_cell (w := w) (base := base) D T) (hr.mono (by omega)) (by rfl) D.law_cell.g D.law_cell.F.kp D.law_cell.b .nil pass0 (pa_cons (pv 0) (pa_cons (pv 1) (pa_cons (pv 2) pa_nil)))))) pss_nil)
    (pss_cons (ps_for PassesOwn.never rfl (k_piT (K := K) rfl (pe_ix (k_ixT (K := K) rfl) (pv 1) pe_int (fun _ _ => rfl))) (pg_name (i := 3) sc.nd rfl (Or.inl rfl)) (pss_one (ps_if (pt_val (pe_call (ok_law_holds (w := w) (base := base) D T 24) (hr.mono (by omega)) (by rfl) D.law_holds.g D.law_holds.F.kp D.law_holds.b .nil pass0 (pa_cons (pv 0) (pa_cons (pe_ix (k_ixT (K := K) rfl) (pv 3) pe_int (fun _ _ => rfl)) (pa_cons (pv 2) pa_nil))))) (pss_one (ps_ret (pe_call ih (hr.mono (by omega)) (by rfl) D.law_given.g D.law_given.F.kp D.law_given.b .nil pass0 (pa_cons (pv 0) (pa_cons (pe_ix (k_ixT (K := K) rfl) (pv 3) pe_int (fun _ _ => rfl)) (pa_cons (pv 2) pa_nil)))))) pss_nil)))
    (pss_one (ps_ret (pe_call ih (hr.mono (by omega)) (by rfl) D.law_given.g D.law_given.F.kp D.law_given.b .nil pass0 (pa_cons (pv 0) (pa_cons (pe_ix (k_ixT (K := K) rfl) (pv 1) pe_int (fun _ _ => rfl)) (pa_cons (pv 2) pa_nil)))))))), ?_⟩
    refine' body_m h ?ds (by decide) ?hm
    case ds => exact (ds_seq (ds_ifs (dt_test (de_op dr_neS (de_op dr_ixT (de_var 1) de_int) (de_str (by decide +kernel)))) (ds_ret (de_call (da_cons (de_var 0) (da_cons (de_var 1) (da_cons (de_var 2) da_nil))))) ds_next)
    (ds_seq (ds_for (di_eT (de_op dr_ixT (de_var 1) de_int)) dg_name (ds_ifs (dt_b (de_call (da_cons (de_var 0) (da_cons (de_op dr_ixT (de_var 3) de_int) (da_cons (de_var 2) da_nil))))) (ds_ret (de_call (da_cons (de_var 0) (da_cons (de_op dr_ixT (de_var 3) de_int) (da_cons (de_var 2) da_nil))))) ds_next))
    (ds_ret (de_call (da_cons (de_var 0) (da_cons (de_op dr_ixT (de_var 1) de_int) (da_cons (de_var 2) da_nil)))))))
    case hm =>
      clear h hr
      intro dvs Qm hF
      obtain ⟨Ts, pl, ws, tx, tr, R, rfl, fm, nn, ok, ex, dep, d23, hq⟩ := hF
      try simp only [List.map_cons, List.map_nil, List.cons_append, List.nil_append, List.length_cons, List.length_nil, Nat.reduceAdd, Nat.reduceSub, List.replicate_succ, List.replicate_zero]
      cases tr with
      | tru => exact ex.elim
      | fls => exact ex.elim
      | ex t => exact ex.elim
      | cmp e l r => exact ex.elim
      | neg a => exact ex.elim
      | jn c ps => exact ex.elim
      | op o =>
        have hq : Qm (.d (o.ev Ts R).d) := hq
        cases o <;>
        · walk_at "k"
          refine ⟨Ts, _, R, rfl, fm, nn, ?_⟩
          walk_at "k"
          exact hq
      | ite ps e =>
        have d2 : max (brsDep ps) e.dep + 1 ≤ d := dep
        have d3 : max (brsDep ps) e.dep + 1 ≤ 23 := d23
        obtain ⟨j, rfl⟩ : ∃ j, d = j + 1 := ⟨d - 1, by omega⟩
        obtain ⟨pn, ex2, ee, o, rfl⟩ := ex
        have ex2 := brsEx_iff.mp ex2
        have ok2 := (brsOk_iff ps).mp ok.2.1
        have hq : Qm (.d (brsGiven Ts R ps (o.ev Ts R)).d) := hq
        walk_at "k"
        rw [brsD_map]
        refine loop (l := ps) (f := fun p => .tuple [p.1.d, p.2.d]) (fun k ε => ∃ y3 : Option DV, ε = [some (.d (tabsD Ts)), some (.d (Tr.d (.ite ps (.op o)))), some (.d (recD R)), y3] ∧ brsGiven Ts R (ps.drop k) (o.ev Ts R) = brsGiven Ts R ps (o.ev Ts R)) ⟨_, rfl, rfl⟩ ?_ ?_
        · rintro k ⟨a, b⟩ ε hp ⟨y3, rfl, hl⟩
          have mp := List.mem_of_getElem? hp
          rw [drop_cons hp] at hl
          have hl : (if a.ev Ts R then b.given Ts R else brsGiven Ts R (ps.drop (k + 1)) (o.ev Ts R)) = brsGiven Ts R ps (o.ev Ts R) := hl
          have dab := brsDep_le.mp (Nat.le_refl (brsDep ps)) (a, b) mp
          have da : a.dep ≤ brsDep ps := dab.1
          have db : b.dep ≤ brsDep ps := dab.2
          walk_at "m"
          refine ⟨Ts, pl, a, R, rfl, fm, nn, (ok2 _ mp).1, (ex2 _ mp).1, by show a.dep ≤ 23; omega, ?_⟩
          walk_at "m"
          cases c1 : a.ev Ts R with
          | true =>
            refine cndT rfl ?_
            rw [if_pos c1] at hl
            walk_at "m"
            refine ⟨Ts, pl, ws, tx, b, R, rfl, fm, nn, (ok2 _ mp).2, (ex2 _ mp).2, by omega, by omega, ?_⟩
            walk_at "m"
            rw [hl]
            exact hq
          | false =>
            refine cndF rfl ?_
            rw [if_neg (by rw [c1]; decide)] at hl
            walk_at "m"
            exact ⟨_, rfl, hl⟩
        · rintro ε ⟨y3, rfl, hl⟩
          rw [List.drop_eq_nil_of_le (Nat.le_refl _)] at hl
          have hl : o.ev Ts R = _ := hl
          have d4 : (1 : Nat) ≤ max (brsDep ps) (Tr.dep (.op o)) := Nat.le_max_right _ _
          walk_at "k"
          refine ⟨Ts, pl, ws, tx, .op o, R, rfl, fm, nn, ok.2.2, ee, by show 1 ≤ j; omega, by show 1 ≤ 23; decide, ?_⟩
          walk_at "k"
          show Qm (.d (o.ev Ts R).d)
          rw [hl]
          exact hq
end
end K10
namespace K10
open PySem PySem.Spec PyProof.Rows L2 Tq
open Mx
section
variable {P : Program} {w : World} {K : PySem.W.Frag} {mg : Str → Option Value} {base : Heap} [Mx.Tb] [Mx.Bs base mg]

theorem ok_law_large (D : Ds K mg) (T : Txt mg) : FnOk P w K mg base CX0 3 D.law_large.f D.law_large.fd ["tape", "widest"] (spM w K 2 (fLarge)) := by
  have sc := sc_law_large
  refine D.law_large.F.ok sc (fun vs H Q E h => h.1) (fun cdv A outer s H vs Q E hr h => ?_)
  refine ⟨_, (pss_cons (ps_set (i := 2) sc.nd rfl (Or.inl rfl) (pe_call (om_law_words (w := w) (base := base) D T) hr (by rfl) D.law_words.g D.law_words.F.kp D.law_words.b .nil pass0 (pa_cons (pv 0) (pa_cons (pe_op o_add pe_int (pe_call (om_law_draw (w := w) (base := base) D T) (hr.mono (by decide)) (by rfl) D.law_draw.g D.law_draw.F.kp D.law_draw.b .nil pass0 (pa_cons (pv 0) (pa_cons pe_int pa_nil)))) (pa_cons (pe_lst pa_nil) pa_nil)))))
    (pss_cons (ps_set (i := 3) sc.nd rfl (Or.inl rfl) pe_int)
    (pss_cons (ps_set (i := 4) sc.nd rfl (Or.inl rfl) (pe_lst pa_nil))
    (pss_cons (ps_for PassesOwn.never rfl (pi_range1 (by rfl) T.b_range (pa_cons (pe_callB (k_len (K := K) rfl) (by rfl) T.b_len PySem.boot_len (pa_cons (pv 2) pa_nil)) pa_nil)) (pg_name (i := 5) sc.nd rfl (Or.inl rfl)) (pss_cons (ps_set (i := 6) sc.nd rfl (Or.inl rfl) (pe_callB (c_min rfl) (by rfl) T.b_min (by decide +kernel) (pa_cons (pe_op o_add pe_int (pe_call (om_law_draw (w := w) (base := base) D T) (hr.mono (by decide)) (by rfl) D.law_draw.g D.law_draw.F.kp D.law_draw.b .nil pass0 (pa_cons (pv 0) (pa_cons pe_int pa_nil)))) (pa_cons (pe_op o_sub (pv 3) (pe_op o_sub (pe_op o_sub (pe_callB (k_len (K := K) rfl) (by rfl) T.b_len PySem.boot_len (pa_cons (pv 2) pa_nil)) pe_int) (pv 5))) pa_nil))))
    (pss_cons (ps_set (i := 7) sc.nd rfl (Or.inl rfl) (pe_lst pa_nil))
    (pss_cons (ps_for PassesOwn.never rfl (k_piL (K := K) rfl (pe_call (om_law_words (w := w) (base := base) D T) hr (by rfl) D.law_words.g D.law_words.F.kp D.law_words.b .nil pass0 (pa_cons (pv 0) (pa_cons (pv 6) (pa_cons (pe_lst pa_nil) pa_nil))))) (pg_name (i := 8) sc.nd rfl (Or.inl rfl)) (pss_cons (ps_set (i := 9) sc.nd rfl (Or.inl rfl) (pe_call (om_law_draw (w := w) (base := base) D T) (hr.mono (by decide)) (by rfl) D.law_draw.g D.law_draw.F.kp D.law_draw.b .nil pass0 (pa_cons (pv 0) (pa_cons pe_int pa_nil))))
    (pss_cons (ps_set (i := 10) sc.nd rfl (Or.inl rfl) pe_str)
    (pss_cons (ps_if (pt_cmpR op_eq (pv 9) pe_int (nomark _)) (pss_one (ps_set (i := 10) sc.nd rfl (Or.inl rfl) (pe_callTy (k_tuple (K := K) rfl) (by rfl) T.b_tuple (by decide +kernel) (pa_cons (pe_lc (own := [("j", 11)]) rfl sc.nd (pi_range1 (by rfl) T.b_range (pa_cons (pe_ix (k_ixL (K := K) rfl) (pe_lst (pa_cons pe_int (pa_cons pe_int (pa_cons pe_int (pa_cons (pv 1) pa_nil))))) (pe_call (om_law_draw (w := w) (base := base) D T) (hr.mono (by decide)) (by rfl) D.law_draw.g D.law_draw.F.kp D.law_draw.b .nil pass0 (pa_cons (pv 0) (pa_cons pe_int pa_nil))) (fun _ _ => rfl)) pa_nil)) (blkOk_by (N := ["tape", "widest", "names", "left", "tables", "k", "many", "columns", "label", "choice", "kind", "j"]) (sc := defScope s_law_large) (by decide +kernel)) (fun _ _ _ _ _ => (pg_name (i := 11) sc.nd rfl (Or.inl rfl))) (fun _ _ _ _ _ => pts_nil) (fun _ _ _ _ _ => (pe_op o_addS pe_str (pe_callTy c_str (by rfl) T.b_str (by decide +kernel) (pa_cons (pv 11) pa_nil))))) pa_nil)))) pss_nil)
    (pss_cons (ps_if (pt_cmpR op_eq (pv 9) pe_int (nomark _)) (pss_one (ps_set (i := 10) sc.nd rfl (Or.inl rfl) (pe_callTy (k_tuple (K := K) rfl) (by rfl) T.b_tuple (by decide +kernel) (pa_cons (pe_call (om_law_words (w := w) (base := base) D T) hr (by rfl) D.law_words.g D.law_words.F.kp D.law_words.b .nil pass0 (pa_cons (pv 0) (pa_cons (pe_op o_add pe_int (pe_call (om_law_draw (w := w) (base := base) D T) (hr.mono (by decide)) (by rfl) D.law_draw.g D.law_draw.F.kp D.law_draw.b .nil pass0 (pa_cons (pv 0) (pa_cons pe_int pa_nil)))) (pa_cons (pe_lst pa_nil) pa_nil)))) pa_nil)))) pss_nil)
    (pss_one (ps_expr (pe_bm PySem.F.plainAttrs_list PySem.F.slot_list_append PySem.F.type_list_append mt_append (pv 7) (pa_cons (pe_tup (pa_cons (pv 8) (pa_cons (pv 10) (pa_cons (pe_cmpR op_eq (pe_call (om_law_draw (w := w) (base := base) D T) (hr.mono (by decide)) (by rfl) D.law_draw.g D.law_draw.F.kp D.law_draw.b .nil pass0 (pa_cons (pv 0) (pa_cons pe_int pa_nil))) pe_int (nomark _)) pa_nil)))) pa_nil)))))))))
    (pss_cons (ps_set (i := 3) sc.nd rfl (Or.inl rfl) (pe_op o_sub (pv 3) (pv 6)))
    (pss_one (ps_expr (pe_bm PySem.F.plainAttrs_list PySem.F.slot_list_append PySem.F.type_list_append mt_append (pv 4) (pa_cons (pe_tup (pa_cons (pe_ix (k_ixL (K := K) rfl) (pv 2) (pv 5) (fun _ _ => rfl)) (pa_cons (pe_cmpR op_eq (pe_call (om_law_draw (w := w) (base := base) D T) (hr.mono (by decide)) (by rfl) D.law_draw.g D.law_draw.F.kp D.law_draw.b .nil pass0 (pa_cons (pv 0) (pa_cons pe_int pa_nil))) pe_int (nomark _)) (pa_cons (pe_callTy (k_tuple (K := K) rfl) (by rfl) T.b_tuple (by decide +kernel) (pa_cons (pv 7) pa_nil)) pa_nil)))) pa_nil)))))))))
    (pss_one (ps_ret (pe_callTy (k_tuple (K := K) rfl) (by rfl) T.b_tuple (by decide +kernel) (pa_cons (pv 4) pa_nil)))))))), ?_⟩
  refine' body_m h ?ds (by decide) ?hm
  case ds => exact (ds_seq (ds_set (de_call (da_cons (de_var 0) (da_cons (de_op dr_add de_int (de_call (da_cons (de_var 0) (da_cons de_int da_nil)))) (da_cons (de_lst da_nil) da_nil)))))
    (ds_seq (ds_set de_int)
    (ds_seq (ds_set (de_lst da_nil))
    (ds_seq (ds_for (di_rng1 (da_cons (de_cb dc_len (da_cons (de_var 2) da_nil)) da_nil)) dg_name (ds_seq (ds_set (de_cb dc_min (da_cons (de_op dr_add de_int (de_call (da_cons (de_var 0) (da_cons de_int da_nil)))) (da_cons (de_op dr_sub (de_var 3) (de_op dr_sub (de_op dr_sub (de_cb dc_len (da_cons (de_var 2) da_nil)) de_int) (de_var 5))) da_nil))))
    (ds_seq (ds_set (de_lst da_nil))
    (ds_seq (ds_for (di_eL (de_call (da_cons (de_var 0) (da_cons (de_var 6) (da_cons (de_lst da_nil) da_nil))))) dg_name (ds_seq (ds_set (de_call (da_cons (de_var 0) (da_cons de_int da_nil))))
    (ds_seq (ds_set (de_str (by decide +kernel)))
    (ds_seq (ds_ifs (dt_test (de_op dr_eqS (de_var 9) de_int)) (ds_set (de_cb dc_tuple (da_cons (de_lc (di_rng1 (da_cons (de_op dr_ixL (de_lst (da_cons de_int (da_cons de_int (da_cons de_int (da_cons (de_var 1) da_nil))))) (de_call (da_cons (de_var 0) (da_cons de_int da_nil)))) da_nil)) dg_name dt_yes (de_op dr_addS (de_str (by decide +kernel)) (de_cb dc_str (da_cons (de_var 11) da_nil))) (by decide)) da_nil))) ds_next)
    (ds_seq (ds_ifs (dt_test (de_op dr_eqS (de_var 9) de_int)) (ds_set (de_cb dc_tuple (da_cons (de_call (da_cons (de_var 0) (da_cons (de_op dr_add de_int (de_call (da_cons (de_var 0) (da_cons de_int da_nil)))) (da_cons (de_lst da_nil) da_nil)))) da_nil))) ds_next)
    (ds_app (de_tup (da_cons (de_var 8) (da_cons (de_var 10) (da_cons (de_op dr_eqS (de_call (da_cons (de_var 0) (da_cons de_int da_nil))) de_int) da_nil))))))))))
    (ds_seq (ds_set (de_op dr_sub (de_var 3) (de_var 6)))
    (ds_app (de_tup (da_cons (de_op dr_ixL (de_var 2) (de_var 5)) (da_cons (de_op dr_eqS (de_call (da_cons (de_var 0) (da_cons de_int da_nil))) de_int) (da_cons (de_cb dc_tuple (da_cons (de_var 7) da_nil)) da_nil))))))))))
    (ds_ret (de_cb dc_tuple (da_cons (de_var 4) da_nil)))))))
  case hm =>
    clear h hr
    intro dvs Qm hF
    obtain ⟨wd, rfl, w1, w3, hq⟩ := hF
    try simp only [List.map_cons, List.map_nil, List.cons_append, List.nil_append, List.length_cons, List.length_nil, Nat.reduceAdd, Nat.reduceSub, List.replicate_succ, List.replicate_zero]
    walk_at "m"
    refine ⟨8, rfl, by decide, fun n n0 n1 => ?_⟩
    walk_at "m"
    refine ⟨1 + n, [], rfl, by omega, by omega, by decide, fun ns nl nd nk nn => ?_⟩
    have nl1 : (ns.length : Int) = 1 + n := by omega
    walk_at "m"
    refine ⟨by rw [List.length_map]; omega, by rw [List.length_map]; omega, ?_⟩
    rw [List.length_map]
    refine loopR (fun k ε => ∃ (Ts : List Tab) (lf : Int) (y5 y6 y7 y8 y9 y10 y11 : Option DV), ε = [some DV.tp, some (DV.d (PyData.int wd)), some (DV.l true true (sL ns)), some (DV.d (PyData.int lf)), some (DV.l true true (Ts.map Tab.d)), y5, y6, y7, y8, y9, y10, y11] ∧ Ts.map Tab.name = ns.take k ∧ (∀ t ∈ Ts, t.Ok ∧ (t.cols.map Col.name).Nodup) ∧ (colN Ts : Int) = 20 - lf ∧ (ns.length : Int) - k ≤ lf) ⟨[], 20, _, _, _, _, _, _, _, rfl, rfl, by simp, rfl, by omega⟩ ?_ ?_
    · rintro k ε hk ⟨Ts, lf, y5, y6, y7, y8, y9, y10, y11, rfl, tn, tok, tc, tl⟩
      have hk2 : k < ns.length := by omega
      have tlen : Ts.length = k := by
        have := congrArg List.length tn
        rw [List.length_map, List.length_take] at this
        omega
      walk_at "m"
      refine ⟨4, rfl, by decide, fun i i0 i1 => ?_⟩
      walk_at "m"
      obtain ⟨mm, em, m1, m2⟩ : ∃ mm : Int, (if lf - ((sL ns).length - 1 - (0 + (k : Int))) < 1 + i then lf - ((sL ns).length - 1 - (0 + (k : Int))) else 1 + i) = mm ∧ 1 ≤ mm ∧ mm ≤ lf - ((ns.length : Int) - 1 - k) ∧ mm ≤ 4 := by
        rw [List.length_map]
        refine ⟨_, rfl, ?_, ?_, ?_⟩ <;> split <;> omega
      refine ⟨mm, [], by rw [← em]; rfl, by omega, by omega, by decide, fun ls ll ld lk lw => ?_⟩
      have ll1 : (ls.length : Int) = mm := by omega
      walk_at "m"
      have em2 : (if (lf - (((sL ns).length : Int) - 1 - (0 + (k : Int)))) < 1 + i then (lf - (((sL ns).length : Int) - 1 - (0 + (k : Int)))) else 1 + i) = mm := em
      refine loop (l := ls) (f := PyData.str) (fun j ε => ∃ (Cs : List Col) (y8 y9 y10 y11 : Option DV), ε = [some DV.tp, some (DV.d (PyData.int wd)), some (DV.l true true (sL ns)), some (DV.d (PyData.int lf)), some (DV.l true true (Ts.map Tab.d)), some (DV.d (PyData.int (0 + (k : Int)))), some (DV.d (PyData.int mm)), some (DV.l true true (Cs.map Col.d)), y8, y9, y10, y11] ∧ Cs.map Col.name = ls.take j ∧ ∀ c ∈ Cs, c.Ok) ⟨[], _, _, _, _, by rw [← em2]; rfl, rfl, by simp⟩ ?_ ?_
      · rintro j z ε hz ⟨Cs, y8, y9, y10, y11, rfl, cn, cok⟩
        have hz2 := lw z (List.mem_of_getElem? hz)
        have jl := (List.getElem?_eq_some_iff.mp hz).1
        have clen : Cs.length = j := by
          have := congrArg List.length cn
          rw [List.length_map, List.length_take] at this
          omega
        walk_at "m"
        refine ⟨4, rfl, by decide, fun h h0 h1 => ?_⟩
        refine ⟨rfl, ?_⟩
        dsimp only
        refine ⟨rfl, ?_⟩
        dsimp only
        refine cut (fun ε => ∃ (kd : Option (List Str)) (y11 : Option DV), ε = [some DV.tp, some (DV.d (PyData.int wd)), some (DV.l true true (sL ns)), some (DV.d (PyData.int lf)), some (DV.l true true (Ts.map Tab.d)), some (DV.d (PyData.int (0 + (k : Int)))), some (DV.d (PyData.int mm)), some (DV.l true true (Cs.map Col.d)), some (DV.d (.str z)), some (DV.d (PyData.int h)), some (DV.d (kdD kd)), y11] ∧ KdOk kd) (fun N hN => ?_) ?_
        · walk_at "m"
          refine cnd (fun c1 => ?_) (fun c1 => ?_)
          · walk_at "m"
            refine ⟨4, rfl, by decide, fun g g0 g1 => ?_⟩
            walk_at "m"
            obtain ⟨u, eu, u1, u2⟩ := pickI [1, 2, 7, wd] 1 300 (by intro x hx; simp at hx; omega) g0 (by show _ < (4 : Int); omega)
            have eu : atI [PyData.int 1, PyData.int 2, PyData.int 7, PyData.int wd] g = some (.int u) := eu
            rw [eu]
            walk_at "m"
            refine ⟨by omega, by omega, ?_⟩
            refine lc_mp (l := List.range u.toNat) (f := fun (k : Nat) => .int (0 + (k : Int))) (fun (k : Nat) => .str ("w" ++ Str.ofString (toString (k : Int)))) (by rw [List.length_range]; omega) (fun x hx P N2 hP => ?_) ?_
            · have hx2 := List.mem_range.mp hx
              walk_at "m"
              refine cndT rfl ?_
              refine ⟨log_small (by omega) (by omega), ?_⟩
              walk_at "m"
              have a := numS_len (k := x) (by omega)
              have b1 : ("w" : Str).length = 1 := rfl
              have a2 : (Str.ofString (toString (0 + (x : Int)))).length ≤ 5 := by rw [Int.zero_add]; exact a
              refine ⟨fits (by omega), ?_⟩
              show P (.str ("w" ++ Str.ofString (toString (0 + (x : Int)))))
              rw [Int.zero_add]
              exact hP
            · walk_at "m"
              refine hN _ ⟨some ((List.range u.toNat).map fun (k : Nat) => ("w" ++ Str.ofString (toString (k : Int)) : Str)), y11, ?_, ?_⟩
              · unfold kdD Col.kd
                simp only [List.map_map]
                rfl
              · intro vs ev
                cases ev
                refine ⟨fun e => ?_, by rw [List.length_map, List.length_range]; omega, fun y hy => ?_⟩
                · have := congrArg List.length e
                  rw [List.length_map, List.length_range] at this
                  simp at this; omega
                · obtain ⟨q, hq, rfl⟩ := List.mem_map.mp hy
                  exact name_w (by have := List.mem_range.mp hq; omega)
          · exact hN _ ⟨none, _, rfl, fun vs e => nomatch e⟩
        · rintro ε ⟨kd, y11, rfl, kok⟩
          refine cut (fun ε => ∃ (kd : Option (List Str)) (y11 : Option DV), ε = [some DV.tp, some (DV.d (PyData.int wd)), some (DV.l true true (sL ns)), some (DV.d (PyData.int lf)), some (DV.l true true (Ts.map Tab.d)), some (DV.d (PyData.int (0 + (k : Int)))), some (DV.d (PyData.int mm)), some (DV.l true true (Cs.map Col.d)), some (DV.d (.str z)), some (DV.d (PyData.int h)), some (DV.d (kdD kd)), y11] ∧ KdOk kd) (fun N hN => ?_) ?_
          · walk_at "m"
            refine cnd (fun c1 => ?_) (fun c1 => ?_)
            · walk_at "m"
              refine ⟨3, rfl, by decide, fun g g0 g1 => ?_⟩
              walk_at "m"
              refine ⟨1 + g, [], rfl, by omega, by omega, by decide, fun vs vl vd vk vn => ?_⟩
              walk_at "m"
              refine hN _ ⟨some vs, _, rfl, fun ws e => ?_⟩
              cases e
              exact ⟨by intro e; rw [e] at vl; have : (0 : Nat) = (1 + g).toNat := vl; omega, by omega, vn⟩
            · exact hN _ ⟨kd, _, rfl, kok⟩
          · rintro ε ⟨kd, y11, rfl, kok⟩
            walk_at "m"
            refine ⟨2, rfl, by decide, fun g g0 g1 => ?_⟩
            walk_at "m"
            refine ⟨by rw [List.length_map]; exact fits_lt (by omega), ?_⟩
            walk_at "m"
            refine ⟨Cs ++ [⟨z, kd, decide (g = 0)⟩], _, _, _, _, by rw [List.map_append]; rfl, ?_, fun c m => ?_⟩
            · rw [List.map_append, cn, List.take_add_one, hz]; rfl
            · rcases List.mem_append.mp m with m | m
              · exact cok c m
              · rw [List.mem_singleton.mp m]; exact ⟨hz2, kok⟩
      · rintro ε ⟨Cs, y8, y9, y10, y11, rfl, cn, cok⟩
        walk_at "m"
        obtain ⟨nm1, enm, hnm⟩ : ∃ x, ns[k]? = some x ∧ x ∈ ns := ⟨ns[k], List.getElem?_eq_getElem hk2, List.getElem_mem hk2⟩
        have ea : atI (sL ns) (0 + (k : Int)) = some (.str nm1) := by
          obtain ⟨x, e1, e2⟩ := atI_map (f := PyData.str) (xs := ns) (i := 0 + (k : Int)) (by omega) (by omega)
          have : (0 + (k : Int)).toNat = k := by omega
          rw [this, enm] at e2
          cases e2; exact e1
        rw [ea]
        walk_at "m"
        refine ⟨2, rfl, by decide, fun g g0 g1 => ?_⟩
        walk_at "m"
        refine ⟨by rw [List.length_map]; exact fits_lt (by omega), ?_⟩
        walk_at "m"
        have cl : Cs.length = ls.length := by
          have := congrArg List.length cn
          rw [List.length_map, List.take_of_length_le (Nat.le_refl _)] at this
          exact this
        refine ⟨Ts ++ [⟨nm1, decide (g = 0), Cs⟩], lf - mm, _, _, _, _, _, _, _, by rw [List.map_append]; rfl, ?_, fun t m => ?_, ?_, by omega⟩
        · rw [List.map_append, tn, List.take_add_one, enm]; rfl
        · rcases List.mem_append.mp m with m | m
          · exact tok t m
          · rw [List.mem_singleton.mp m]
            refine ⟨⟨nn nm1 hnm, cok, ?_⟩, ?_⟩
            · intro e
              have e : Cs = [] := e
              rw [e] at cl
              have : (0 : Nat) = ls.length := cl
              omega
            · show (Cs.map Col.name).Nodup
              rw [cn]
              exact (List.take_sublist _ _).nodup ld
        · rw [colN_snoc]
          show ((colN Ts + Cs.length : Nat) : Int) = _
          omega
    · rintro ε ⟨Ts, lf, y5, y6, y7, y8, y9, y10, y11, rfl, tn, tok, tc, tl⟩
      walk_at "m"
      have tlen : Ts.length = ns.length := by
        have := congrArg List.length tn
        rw [List.length_map, List.length_take] at this
        omega
      refine hq Ts ⟨fun t m => (tok t m).1, by omega, fun e => ?_, by omega, by rw [tn]; exact (List.take_sublist _ _).nodup nd, fun t m => (tok t m).2⟩
      rw [e] at tlen
      have : (0 : Nat) = ns.length := tlen
      omega
end
end K10
namespace K10
open PySem PySem.Spec PyProof.Rows L2 Tq
open Mx
section
variable {P : Program} {w : World} {K : PySem.W.Frag} {mg : Str → Option Value} {base : Heap} [Mx.Tb] [Mx.Bs base mg]

theorem ok_law_any_tables (D : Ds K mg) (T : Txt mg) : FnOk P w K mg base CX0 4 D.law_any_tables.f D.law_any_tables.fd ["tape", "widest"] (spM w K 2 (fLarge)) := by
  have sc := sc_law_any_tables
  refine D.law_any_tables.F.ok sc (fun vs H Q E h => h.1) (fun cdv A outer s H vs Q E hr h => ?_)
  refine ⟨_, (pss_cons (ps_if (pt_cmpR op_eq (pe_call (om_law_draw (w := w) (base := base) D T) (hr.mono (by decide)) (by rfl) D.law_draw.g D.law_draw.F.kp D.law_draw.b .nil pass0 (pa_cons (pv 0) (pa_cons pe_int pa_nil))) pe_int (nomark _)) (pss_one (ps_ret (pe_call (ok_law_large (w := w) (base := base) D T) hr (by rfl) D.law_large.g D.law_large.F.kp D.law_large.b .nil pass0 (pa_cons (pv 0) (pa_cons (pv 1) pa_nil))))) pss_nil)
    (pss_one (ps_ret (pe_call (om_law_tables (w := w) (base := base) D T) hr (by rfl) D.law_tables.g D.law_tables.F.kp D.law_tables.b .nil pass0 (pa_cons (pv 0) (pa_cons (pe_op o_pow pe_int pe_int) (pa_cons pe_int (pa_cons pe_int pa_nil)))))))), ?_⟩
  refine' body_m h ?ds (by decide) ?hm
  case ds => exact (ds_seq (ds_ifs (dt_test (de_op dr_eqS (de_call (da_cons (de_var 0) (da_cons de_int da_nil))) de_int)) (ds_ret (de_call (da_cons (de_var 0) (da_cons (de_var 1) da_nil)))) ds_next)
    (ds_ret (de_call (da_cons (de_var 0) (da_cons (de_op dr_pow de_int de_int) (da_cons de_int (da_cons de_int da_nil)))))))
  case hm =>
    clear h hr
    intro dvs Qm hF
    obtain ⟨wd, rfl, w1, w3, hq⟩ := hF
    try simp only [List.map_cons, List.map_nil, List.cons_append, List.nil_append, List.length_cons, List.length_nil, Nat.reduceAdd, Nat.reduceSub, List.replicate_succ, List.replicate_zero]
    walk_at "m"
    refine ⟨8, rfl, by decide, fun n n0 n1 => ?_⟩
    walk_at "m"
    refine cnd (fun c1 => ?_) (fun c1 => ?_)
    · walk_at "m"
      exact ⟨wd, rfl, w1, w3, hq⟩
    · walk_at "m"
      exact ⟨_, 3, 6, rfl, by decide, by decide, fun Ts ok => hq Ts ok.tb⟩
end
end K10
namespace K10
open PySem PySem.Spec PyProof.Rows L2 Tq
open Mx
section
variable {P : Program} {w : World} {K : PySem.W.Frag} {mg : Str → Option Value} {base : Heap} [Mx.Tb] [Mx.Bs base mg]

theorem ok_law_deeper (D : Ds K mg) (T : Txt mg) : FnOk P w K mg base CX0 2 D.law_deeper.f D.law_deeper.fd ["tape", "expression", "others", "many"] (spM w K 4 (fDeeper)) := by
  have sc := sc_law_deeper
  refine D.law_deeper.F.ok sc (fun vs H Q E h => h.1) (fun cdv A outer s H vs Q E hr h => ?_)
  refine ⟨_, (pss_cons (ps_for PassesOwn.never rfl (pi_range1 (by rfl) T.b_range (pa_cons (pv 3) pa_nil)) (pg_name (i := 4) sc.nd rfl (Or.inl rfl)) (pss_cons (ps_set (i := 5) sc.nd rfl (Or.inl rfl) (pe_ix (k_ixL (K := K) rfl) (pv 2) (pe_call (om_law_draw (w := w) (base := base) D T) hr (by rfl) D.law_draw.g D.law_draw.F.kp D.law_draw.b .nil pass0 (pa_cons (pv 0) (pa_cons (pe_callB (k_len (K := K) rfl) (by rfl) T.b_len PySem.boot_len (pa_cons (pv 2) pa_nil)) pa_nil))) (fun _ _ => rfl)))
    (pss_cons (ps_set (i := 6) sc.nd rfl (Or.inl rfl) (pe_call (om_law_draw (w := w) (base := base) D T) hr (by rfl) D.law_draw.g D.law_draw.F.kp D.law_draw.b .nil pass0 (pa_cons (pv 0) (pa_cons pe_int pa_nil))))
    (pss_cons (ps_if (pt_cmpR op_eq (pv 6) pe_int (nomark _)) (pss_one (ps_set (i := 1) sc.nd rfl (Or.inl rfl) (pe_tup (pa_cons pe_str (pa_cons (pe_tup (pa_cons (pe_tup (pa_cons (pe_tup (pa_cons pe_str pa_nil)) (pa_cons (pv 1) pa_nil))) pa_nil)) (pa_cons (pv 5) pa_nil)))))) pss_nil)
    (pss_cons (ps_if (pt_cmpR op_eq (pv 6) pe_int (nomark _)) (pss_one (ps_set (i := 1) sc.nd rfl (Or.inl rfl) (pe_tup (pa_cons pe_str (pa_cons (pe_tup (pa_cons (pe_tup (pa_cons (pe_tup (pa_cons pe_str pa_nil)) (pa_cons (pv 5) pa_nil))) (pa_cons (pe_tup (pa_cons (pe_tup (pa_cons pe_str pa_nil)) (pa_cons (pv 1) pa_nil))) pa_nil))) (pa_cons (pv 5) pa_nil)))))) pss_nil)
    (pss_one (ps_if (pt_cmpR op_eq (pv 6) pe_int (nomark _)) (pss_one (ps_set (i := 1) sc.nd rfl (Or.inl rfl) (pe_tup (pa_cons pe_str (pa_cons (pe_tup (pa_cons (pe_tup (pa_cons (pe_tup (pa_cons pe_str (pa_cons (pe_tup (pa_cons pe_str pa_nil)) pa_nil))) (pa_cons (pv 1) pa_nil))) (pa_cons (pe_tup (pa_cons (pe_tup (pa_cons pe_str pa_nil)) (pa_cons (pv 5) pa_nil))) pa_nil))) (pa_cons (pv 5) pa_nil)))))) pss_nil)))))))
    (pss_one (ps_ret (pv 1)))), ?_⟩
  refine' body_m h ?ds (by decide) ?hm
  case ds => exact (ds_seq (ds_for (di_rng1 (da_cons (de_var 3) da_nil)) dg_name (ds_seq (ds_set (de_op dr_ixL (de_var 2) (de_call (da_cons (de_var 0) (da_cons (de_cb dc_len (da_cons (de_var 2) da_nil)) da_nil)))))
    (ds_seq (ds_set (de_call (da_cons (de_var 0) (da_cons de_int da_nil))))
    (ds_seq (ds_ifs (dt_test (de_op dr_eqS (de_var 6) de_int)) (ds_set (de_tup (da_cons (de_str (by decide +kernel)) (da_cons (de_tup (da_cons (de_tup (da_cons (de_tup (da_cons (de_str (by decide +kernel)) da_nil)) (da_cons (de_var 1) da_nil))) da_nil)) (da_cons (de_var 5) da_nil))))) ds_next)
    (ds_seq (ds_ifs (dt_test (de_op dr_eqS (de_var 6) de_int)) (ds_set (de_tup (da_cons (de_str (by decide +kernel)) (da_cons (de_tup (da_cons (de_tup (da_cons (de_tup (da_cons (de_str (by decide +kernel)) da_nil)) (da_cons (de_var 5) da_nil))) (da_cons (de_tup (da_cons (de_tup (da_cons (de_str (by decide +kernel)) da_nil)) (da_cons (de_var 1) da_nil))) da_nil))) (da_cons (de_var 5) da_nil))))) ds_next)
    (ds_ifs (dt_test (de_op dr_eqS (de_var 6) de_int)) (ds_set (de_tup (da_cons (de_str (by decide +kernel)) (da_cons (de_tup (da_cons (de_tup (da_cons (de_tup (da_cons (de_str (by decide +kernel)) (da_cons (de_tup (da_cons (de_str (by decide +kernel)) da_nil)) da_nil))) (da_cons (de_var 1) da_nil))) (da_cons (de_tup (da_cons (de_tup (da_cons (de_str (by decide +kernel)) da_nil)) (da_cons (de_var 5) da_nil))) da_nil))) (da_cons (de_var 5) da_nil))))) ds_next))))))
    ds_retV)
  case hm =>
    clear h hr
    intro dvs Qm hF
    obtain ⟨Ts, pl, ws, tx, tr, os, m, rfl, ok, ex, on, oi, ol, m0, m1, hq⟩ := hF
    try simp only [List.map_cons, List.map_nil, List.cons_append, List.nil_append, List.length_cons, List.length_nil, Nat.reduceAdd, Nat.reduceSub, List.replicate_succ, List.replicate_zero]
    walk_at "m"
    refine ⟨by omega, by omega, ?_⟩
    refine loopR (fun k ε => ∃ (t : Tr) (y4 y5 y6 : Option DV), ε = [some DV.tp, some (DV.d t.d), some (.l false false (os.map Opd.d)), some (DV.d (PyData.int m)), y4, y5, y6] ∧ t.Ok ∧ t.Ex Ts pl ws tx ∧ t.dep ≤ max tr.dep 3 + k) ⟨tr, none, none, none, rfl, ok, ex, by omega⟩ ?_ ?_
    · rintro k ε hk ⟨t, y4, y5, y6, rfl, tok, tex, td⟩
      walk_at "m"
      have osn : 0 < os.length := List.length_pos_iff.mpr on
      refine ⟨os.length, by rw [List.length_map]; rfl, by omega, fun i i0 i1 => ?_⟩
      walk_at "m"
      obtain ⟨o, eo, go⟩ := atI_map (f := Opd.d) (xs := os) i0 (by omega)
      have mo := List.mem_of_getElem? go
      rw [eo]
      have oo := oi o mo
      walk_at "m"
      refine ⟨3, rfl, by decide, fun n n0 n1 => ?_⟩
      refine ⟨rfl, ?_⟩
      dsimp only
      refine cut (fun ε => ∃ (t : Tr), ε = [some DV.tp, some (DV.d t.d), some (.l false false (os.map Opd.d)), some (DV.d (PyData.int m)), some (DV.d (PyData.int (0 + (k : Int)))), some (DV.d o.d), some (DV.d (PyData.int n))] ∧ t.Ok ∧ t.Ex Ts pl ws tx ∧ t.dep ≤ max tr.dep 3 + k + (if n = 0 then 1 else 0)) (fun N hN => ?_) ?_
      · walk_at "m"
        refine cnd (fun c1 => ?_) (fun c1 => ?_)
        · walk_at "m"
          refine hN _ ⟨.ite [(.tru, t)] (.op o), rfl, ⟨by show 1 ≤ 100; decide, ⟨trivial, tok, trivial⟩, oo.1⟩, ⟨by simp, ⟨trivial, tex, trivial⟩, oo.2, o, rfl⟩, ?_⟩
          rw [if_pos c1]; show max (max (max 1 t.dep) 0) 1 + 1 ≤ _; omega
        · exact hN _ ⟨t, rfl, tok, tex, by omega⟩
      · rintro ε ⟨t, rfl, tok, tex, td⟩
        refine cut (fun ε => ∃ (t : Tr), ε = [some DV.tp, some (DV.d t.d), some (.l false false (os.map Opd.d)), some (DV.d (PyData.int m)), some (DV.d (PyData.int (0 + (k : Int)))), some (DV.d o.d), some (DV.d (PyData.int n))] ∧ t.Ok ∧ t.Ex Ts pl ws tx ∧ t.dep ≤ max tr.dep 3 + k + (if n = 2 then 0 else 1)) (fun N hN => ?_) ?_
        · walk_at "m"
          refine cnd (fun c1 => ?_) (fun c1 => ?_)
          · walk_at "m"
            subst c1
            refine hN _ ⟨.ite [(.fls, .op o), (.tru, t)] (.op o), rfl, ⟨by show 2 ≤ 100; decide, ⟨trivial, oo.1, trivial, tok, trivial⟩, oo.1⟩, ⟨by simp, ⟨trivial, oo.2, trivial, tex, trivial⟩, oo.2, o, rfl⟩, ?_⟩
            show max (max (max 1 1) (max (max 1 t.dep) 0)) 1 + 1 ≤ _
            simp at td ⊢; omega
          · refine hN _ ⟨t, rfl, tok, tex, ?_⟩
            split at td <;> split <;> omega
        · rintro ε ⟨t, rfl, tok, tex, td⟩
          walk_at "m"
          refine cnd (fun c1 => ?_) (fun c1 => ?_)
          · walk_at "m"
            subst c1
            refine ⟨.ite [(.neg .fls, t), (.tru, .op o)] (.op o), _, _, _, rfl, ⟨by show 2 ≤ 100; decide, ⟨trivial, tok, trivial, oo.1, trivial⟩, oo.1⟩, ⟨by simp, ⟨trivial, tex, trivial, oo.2, trivial⟩, oo.2, o, rfl⟩, ?_⟩
            show max (max (max (1 + 1) t.dep) (max (max 1 1) 0)) 1 + 1 ≤ _
            simp at td ⊢; omega
          · walk_at "m"
            refine ⟨t, _, _, _, rfl, tok, tex, ?_⟩
            split at td <;> omega
    · rintro ε ⟨t, y4, y5, y6, rfl, tok, tex, td⟩
      walk_at "m"
      exact hq t tok tex td
end
end K10
namespace K10
open PySem PySem.Spec PyProof.Rows L2 Tq
open Mx
section
variable {P : Program} {w : World} {K : PySem.W.Frag} {mg : Str → Option Value} {base : Heap} [Mx.Tb] [Mx.Bs base mg]

theorem ok_law (D : Ds K mg) (T : Txt mg) : FnOk P w K mg base CX0 77 D.law.f D.law.fd ["script"] (Mx.spLawT K) := by
  have sc := sc_law
  refine D.law.F.ok sc (fun vs H Q E h => ?_) (fun cdv A outer s H vs Q E hr h => ?_)
  · obtain ⟨s0, ns, rfl, _⟩ := h
    rfl
  · obtain ⟨s0, ns, rfl, hS, few, bits, hTb, q⟩ := h
    refine ⟨_, (pss_cons (ps_set (i := 1) sc.nd rfl (Or.inr rfl) (pe_call (ok_law_tape (w := w) (base := base) D T) (hr.mono (by decide)) (by rfl) D.law_tape.g D.law_tape.F.kp D.law_tape.b .nil pass0 (pa_cons (pv 0) pa_nil)))
    (pss_cons (ps_set (i := 2) sc.nd rfl (Or.inr rfl) (pe_call (om_law_texts (w := w) (base := base) D T) (hr.mono (by decide)) (by rfl) D.law_texts.g D.law_texts.F.kp D.law_texts.b .nil pass0 (pa_cons (pv 1) (pa_cons (pe_call (om_law_draw (w := w) (base := base) D T) (hr.mono (by decide)) (by rfl) D.law_draw.g D.law_draw.F.kp D.law_draw.b .nil pass0 (pa_cons (pv 1) (pa_cons pe_int pa_nil))) (pa_cons (pe_lst pa_nil) pa_nil)))))
    (pss_cons (ps_set (i := 3) sc.nd rfl (Or.inr rfl) (pe_call (ok_law_any_tables (w := w) (base := base) D T) (hr.mono (by decide)) (by rfl) D.law_any_tables.g D.law_any_tables.F.kp D.law_any_tables.b .nil pass0 (pa_cons (pv 1) (pa_cons pe_int pa_nil))))
    (pss_cons (ps_set (i := 4) sc.nd rfl (Or.inr rfl) (pe_cmpR op_eq (pe_call (om_law_draw (w := w) (base := base) D T) (hr.mono (by decide)) (by rfl) D.law_draw.g D.law_draw.F.kp D.law_draw.b .nil pass0 (pa_cons (pv 1) (pa_cons pe_int pa_nil))) pe_int (nomark _)))
    (pss_cons (ps_set (i := 5) sc.nd rfl (Or.inl rfl) (pe_ix (k_ixL (K := K) rfl) (pe_lst (pa_cons pe_int (pa_cons pe_int (pa_cons pe_int (pa_cons pe_int pa_nil))))) (pe_call (om_law_draw (w := w) (base := base) D T) (hr.mono (by decide)) (by rfl) D.law_draw.g D.law_draw.F.kp D.law_draw.b .nil pass0 (pa_cons (pv 1) (pa_cons pe_int pa_nil))) (fun _ _ => rfl)))
    (pss_cons (ps_set (i := 6) sc.nd rfl (Or.inr rfl) (pe_call (om_law_value_words (w := w) (base := base) D T) (hr.mono (by decide)) (by rfl) D.law_value_words.g D.law_value_words.F.kp D.law_value_words.b .nil pass0 (pa_cons (pv 3) pa_nil)))
    (pss_cons (ps_set (i := 7) sc.nd rfl (Or.inl rfl) (pe_call (ok_law_expression (w := w) (base := base) D T 6) (hr.mono (by decide)) (by rfl) D.law_expression.g D.law_expression.F.kp D.law_expression.b .nil pass0 (pa_cons (pv 1) (pa_cons (pv 3) (pa_cons (pv 2) (pa_cons (pv 6) (pa_cons (pv 4) (pa_cons (pv 5) pa_nil))))))))
    (pss_cons (ps_if (pt_cmpR op_eq (pe_call (om_law_draw (w := w) (base := base) D T) (hr.mono (by decide)) (by rfl) D.law_draw.g D.law_draw.F.kp D.law_draw.b .nil pass0 (pa_cons (pv 1) (pa_cons pe_int pa_nil))) pe_int (nomark _)) (pss_cons (ps_setLc (i := 8) (own := [("k", 9)]) rfl sc.nd rfl rfl (sw_true rfl rfl rfl (by decide +kernel)) (pi_range1 (by rfl) T.b_range (pa_cons pe_int pa_nil)) (blkOk_by (N := ["script", "tape", "pool", "tables", "textual", "deep", "words", "expression", "others", "k", "inner", "record", "due", "told", "again"]) (sc := defScope s_law) (by decide +kernel)) (fun _ _ _ _ _ => (pg_name (i := 9) sc.nd rfl (Or.inl rfl))) (fun _ _ _ _ _ => pts_nil) (fun _ _ _ _ _ => (pe_call (ok_law_operand (w := w) (base := base) D T) (hr.mono (by decide)) (by rfl) D.law_operand.g D.law_operand.F.kp D.law_operand.b .nil pass0 (pa_cons (pv 1) (pa_cons (pv 3) (pa_cons (pv 2) (pa_cons (pv 6) (pa_cons (pv 4) pa_nil))))))))
    (pss_cons (ps_set (i := 10) sc.nd rfl (Or.inl rfl) (pe_call (ok_law_expression (w := w) (base := base) D T 6) (hr.mono (by decide)) (by rfl) D.law_expression.g D.law_expression.F.kp D.law_expression.b .nil pass0 (pa_cons (pv 1) (pa_cons (pv 3) (pa_cons (pv 2) (pa_cons (pv 6) (pa_cons (pv 4) (pa_cons (pe_call (om_law_draw (w := w) (base := base) D T) (hr.mono (by decide)) (by rfl) D.law_draw.g D.law_draw.F.kp D.law_draw.b .nil pass0 (pa_cons (pv 1) (pa_cons pe_int pa_nil))) pa_nil))))))))
    (pss_one (ps_set (i := 7) sc.nd rfl (Or.inl rfl) (pe_call (ok_law_deeper (w := w) (base := base) D T) (hr.mono (by decide)) (by rfl) D.law_deeper.g D.law_deeper.F.kp D.law_deeper.b .nil pass0 (pa_cons (pv 1) (pa_cons (pv 10) (pa_cons (pv 8) (pa_cons (pe_op o_sub pe_int (pe_op o_mul (pe_call (om_law_draw (w := w) (base := base) D T) (hr.mono (by decide)) (by rfl) D.law_draw.g D.law_draw.F.kp D.law_draw.b .nil pass0 (pa_cons (pv 1) (pa_cons pe_int pa_nil))) (pe_call (om_law_draw (w := w) (base := base) D T) (hr.mono (by decide)) (by rfl) D.law_draw.g D.law_draw.F.kp D.law_draw.b .nil pass0 (pa_cons (pv 1) (pa_cons pe_int pa_nil))))) pa_nil))))))))) pss_nil)
    (pss_cons (ps_set (i := 11) sc.nd rfl (Or.inl rfl) (pe_call (ok_law_shape (w := w) (base := base) D T) (hr.mono (by decide)) (by rfl) D.law_shape.g D.law_shape.F.kp D.law_shape.b .nil pass0 (pa_cons (pv 1) (pa_cons (pv 3) (pa_cons (pe_op op_cat (pv 2) (pe_call (om_law_texts (w := w) (base := base) D T) (hr.mono (by decide)) (by rfl) D.law_texts.g D.law_texts.F.kp D.law_texts.b .nil pass0 (pa_cons (pv 1) (pa_cons pe_int (pa_cons (pv 2) pa_nil))))) pa_nil)))))
    (pss_cons (ps_set (i := 12) sc.nd rfl (Or.inl rfl) (pe_call (ok_law_given (w := w) (base := base) D T 24) (hr.mono (by decide)) (by rfl) D.law_given.g D.law_given.F.kp D.law_given.b .nil pass0 (pa_cons (pv 3) (pa_cons (pv 7) (pa_cons (pv 11) pa_nil)))))
    (pss_cons (ps_set (i := 13) sc.nd rfl (Or.inl rfl) (pe_call (ok_cell_of (w := w) (base := base) D T) hr (by rfl) D.cell_of.g D.cell_of.F.kp D.cell_of.b .nil pass0 (pa_cons (pv 3) (pa_cons (pv 7) (pa_cons (pv 11) pa_nil)))))
    (pss_cons (ps_set (i := 14) sc.nd rfl (Or.inl rfl) (pe_call (ok_cell_of (w := w) (base := base) D T) hr (by rfl) D.cell_of.g D.cell_of.F.kp D.cell_of.b .nil pass0 (pa_cons (pv 3) (pa_cons (pv 7) (pa_cons (pv 11) pa_nil)))))
    (pss_cons (ps_if (pt_cmpR o_isN (pv 12) pe_non (nomark _)) (pss_one (ps_ret (pe_and (pe_cmpR o_isN (pv 13) pe_non (nomark _)) (pe_one (pe_cmpR o_isN (pv 14) pe_non (nomark _)))))) pss_nil)
    (pss_one (ps_ret (pe_and (pe_cmpR (k_eqD (K := K) rfl hr.units) (pv 13) (pv 12) (nomark _)) (pe_one (pe_cmpR (k_eqD (K := K) rfl hr.units) (pv 14) (pv 12) (nomark _))))))))))))))))))), ?_⟩
    refine l_seq (l_asg (l_call (l_cons (l_var rfl (l_nil ?_)))))
    refine ⟨s0, ns, rfl, hS, few, fun t a H1 S1 T1 n1 n2 => ?_⟩
    refine l_gname (l_nx ?_)
    refine' law_m (k := 13) ?ds T1 (fun P hP => S1 P _ (hTb P hP)) (fun H' hP => q H' hP) ?hm
    case ds => exact (ds_seq (ds_set (de_call (da_cons (de_var 1) (da_cons (de_call (da_cons (de_var 1) (da_cons de_int da_nil))) (da_cons (de_lst da_nil) da_nil)))))
    (ds_seq (ds_set (de_call (da_cons (de_var 1) (da_cons de_int da_nil))))
    (ds_seq (ds_set (de_op dr_eqS (de_call (da_cons (de_var 1) (da_cons de_int da_nil))) de_int))
    (ds_seq (ds_set (de_op dr_ixL (de_lst (da_cons de_int (da_cons de_int (da_cons de_int (da_cons de_int da_nil))))) (de_call (da_cons (de_var 1) (da_cons de_int da_nil)))))
    (ds_seq (ds_set (de_call (da_cons (de_var 3) da_nil)))
    (ds_seq (ds_set (de_call (da_cons (de_var 1) (da_cons (de_var 3) (da_cons (de_var 2) (da_cons (de_var 6) (da_cons (de_var 4) (da_cons (de_var 5) da_nil))))))))
    (ds_seq (ds_ifs (dt_test (de_op dr_eqS (de_call (da_cons (de_var 1) (da_cons de_int da_nil))) de_int)) (ds_seq (ds_set (de_lc (di_rng1 (da_cons de_int da_nil)) dg_name dt_yes (de_call (da_cons (de_var 1) (da_cons (de_var 3) (da_cons (de_var 2) (da_cons (de_var 6) (da_cons (de_var 4) da_nil)))))) (by decide)))
    (ds_seq (ds_set (de_call (da_cons (de_var 1) (da_cons (de_var 3) (da_cons (de_var 2) (da_cons (de_var 6) (da_cons (de_var 4) (da_cons (de_call (da_cons (de_var 1) (da_cons de_int da_nil))) da_nil))))))))
    (ds_set (de_call (da_cons (de_var 1) (da_cons (de_var 10) (da_cons (de_var 8) (da_cons (de_op dr_sub de_int (de_op dr_mul (de_call (da_cons (de_var 1) (da_cons de_int da_nil))) (de_call (da_cons (de_var 1) (da_cons de_int da_nil))))) da_nil)))))))) ds_next)
    (ds_seq (ds_set (de_call (da_cons (de_var 1) (da_cons (de_var 3) (da_cons (de_op dr_cat (de_var 2) (de_call (da_cons (de_var 1) (da_cons de_int (da_cons (de_var 2) da_nil))))) da_nil)))))
    (ds_seq (ds_set (de_call (da_cons (de_var 3) (da_cons (de_var 7) (da_cons (de_var 11) da_nil)))))
    (ds_seq (ds_set (de_call (da_cons (de_var 3) (da_cons (de_var 7) (da_cons (de_var 11) da_nil)))))
    (ds_seq (ds_set (de_call (da_cons (de_var 3) (da_cons (de_var 7) (da_cons (de_var 11) da_nil)))))
    (ds_seq (ds_ifs (dt_test (de_op dr_isN (de_var 12) de_non)) (ds_ret (de_andV (de_op dr_isN (de_var 13) de_non) (de_op dr_isN (de_var 14) de_non))) ds_next)
    (ds_ret (de_andV (de_op dr_eqD (de_var 13) (de_var 12)) (de_op dr_eqD (de_var 14) (de_var 12))))))))))))))))
    case hm =>
      walk_at "m"
      refine ⟨4, rfl, by decide, fun n n0 n1 => ?_⟩
      walk_at "m"
      refine ⟨n, [], rfl, by omega, by omega, by decide, fun ps pl pd pk pt => ?_⟩
      walk_at "m"
      refine ⟨7, rfl, by decide, by decide, fun Ts tb => ?_⟩
      have few := tb.few
      walk_at "m"
      refine ⟨2, rfl, by decide, fun x x0 x1 => ?_⟩
      walk_at "m"
      obtain ⟨tx, etx⟩ : ∃ b : Bool, decide (x = 0) = b := ⟨_, rfl⟩
      rw [etx]
      refine ⟨4, rfl, by decide, fun j j0 j1 => ?_⟩
      walk_at "m"
      obtain ⟨u, eu, u2, u6⟩ := pickI [0, 1, 2, 2] 0 2 (by decide) j0 (by show _ < (4 : Int); omega)
      have eu : atI [PyData.int 0, PyData.int 1, PyData.int 2, PyData.int 2] j = some (.int u) := eu
      rw [eu]
      walk_at "m"
      refine ⟨Ts, rfl, fun t m c hc => (tb.ok t m).cols c hc, by omega, fun ws v0 vl vn => ?_⟩
      have po : Pool Ts ps ws := ⟨tb, pt, vn, by omega, by omega⟩
      walk_at "m"
      refine ⟨Ts, ps, ws, tx, u, rfl, po, by omega, (by show u ≤ (5 : Int); omega), fun t1 ok1 ex1 dep1 nd1 => ?_⟩
      refine ⟨rfl, ?_⟩
      dsimp only
      refine cut (fun ε => ∃ (tr : Tr) (y8 y9 y10 : Option DV), ε = [none, some .tp, some (.l true true (sL ps)), some (.d (tabsD Ts)), some (.d (.bool tx)), some (.d (.int u)), some (.l true true (sL ws)), some (.d tr.d), y8, y9, y10, none, none, none, none] ∧ tr.Ok ∧ tr.Ex Ts ps ws tx ∧ tr.dep ≤ 12) (fun N hN => ?_) ?_
      · walk_at "m"
        refine ⟨4, rfl, by decide, fun i i0 i1 => ?_⟩
        walk_at "m"
        refine cnd (fun c1 => ?_) (fun c1 => ?_)
        · walk_at "m"
          refine lc_rel (l := List.range (2 : Int).toNat) (f := fun (k : Nat) => .int (0 + (k : Int))) (fun _ y => ∃ o : Opd, y = o.d ∧ (o.Ok ∧ o.In Ts ps ws tx)) (by decide) (fun z hz P N2 hP => ?_) (fun ys yl yr => ?_)
          · walk_at "m"
            refine cndT rfl ?_
            walk_at "m"
            refine ⟨Ts, ps, ws, tx, rfl, po, fun o oo oi => ?_⟩
            walk_at "m"
            exact hP _ ⟨o, rfl, oo, oi⟩
          · obtain ⟨os, rfl, oi⟩ := map_ex (rel_all yl yr)
            have ol : os.length = 2 := by rw [List.length_map] at yl; exact yl
            walk_at "m"
            refine ⟨2, rfl, by decide, fun dp p0 p1 => ?_⟩
            walk_at "m"
            refine ⟨Ts, ps, ws, tx, dp, rfl, po, by omega, (by show dp ≤ (5 : Int); omega), fun t2 ok2 ex2 dep2 nd2 => ?_⟩
            walk_at "m"
            refine ⟨4, rfl, by decide, fun a a0 a1 => ?_⟩
            walk_at "m"
            refine ⟨3, rfl, by decide, fun b b0 b1 => ?_⟩
            walk_at "m"
            refine ⟨.inl ⟨by omega, by omega⟩, ?_⟩
            have ab : 0 ≤ a * b ∧ a * b ≤ 6 := by
              have : b = 0 ∨ b = 1 ∨ b = 2 := by omega
              rcases this with rfl | rfl | rfl <;> omega
            walk_at "m"
            refine ⟨Ts, ps, ws, tx, t2, os, 8 - a * b, rfl, ok2, ex2, (by intro z; rw [z] at ol; cases ol), oi, by omega, by omega, by omega, fun t3 ok3 ex3 dep3 => ?_⟩
            walk_at "m"
            exact hN _ ⟨t3, _, _, _, rfl, ok3, ex3, by omega⟩
        · exact hN _ ⟨t1, _, _, _, rfl, ok1, ex1, by omega⟩
      rintro ε ⟨tr, y8, y9, y10, rfl, ok, ex, dep⟩
      walk_at "m"
      refine ⟨2, ps, rfl, by decide, by decide, by omega, fun qs ql qd qk qt => ?_⟩
      have e2 : (2 : Int).toNat = 2 := rfl
      walk_at "m"
      refine ⟨fits (by rw [List.length_map, List.length_map]; omega), ?_⟩
      rw [← sL_app]
      walk_at "m"
      have pq : ∀ z ∈ ps ++ qs, IsText z := fun z m => (List.mem_append.mp m).elim (pt z) (qt z)
      refine ⟨Ts, ps ++ qs, rfl, tb, pq, by rw [List.length_append]; omega, fun R rk => ?_⟩
      have fm := rk.form tb
      walk_at "m"
      refine ⟨Ts, ps, ws, tx, tr, R, rfl, fm, tb.names, ok, ex, by show tr.dep ≤ 23; omega, by show tr.dep ≤ 23; omega, ?_⟩
      walk_at "m"
      refine ⟨Ts, ps, ws, tx, tr, R, rfl, fm, tb.names, tb.cols, ok, ex, by show tr.dep ≤ 23; omega, ?_⟩
      walk_at "m"
      refine ⟨Ts, ps, ws, tx, tr, R, rfl, fm, tb.names, tb.cols, ok, ex, by show tr.dep ≤ 23; omega, ?_⟩
      walk_at "m"
      cases hg : tr.given Ts R with
      | null =>
        refine cndT rfl ?_
        walk_at "m"
        refine cndT rfl ?_
        walk_at "m"
        rfl
      | txt z =>
        refine cndF rfl ?_
        walk_at "m"
        refine cndT (celEq_self _) ?_
        walk_at "m"
        rw [celEq_self]
      | val z =>
        refine cndF rfl ?_
        walk_at "m"
        refine ⟨Nat.le_trans (cel_depth _) (by decide), Nat.le_trans (cel_depth _) (by decide), ?_⟩
        walk_at "m"
        refine cndT (celEq_self _) ?_
        walk_at "m"
        refine ⟨Nat.le_trans (cel_depth _) (by decide), Nat.le_trans (cel_depth _) (by decide), ?_⟩
        walk_at "m"
        rw [celEq_self]
end
end K10
namespace K10
open PySem PySem.Spec PyProof.Rows L2 Tq Mx
theorem all_mk {l : PySem.W.OpenLaw} {w : World} {K : PySem.W.Frag} {h : Heap} {mg : Str → Option Value} {fa : Addr} (X : K.In h) (G : h.Ns mainGlobals mg) (hfa : mg "law" = some (.ref fa))
    {f_cell_of f_rows_by_name f_cells_by_name f_is_true f_given_cell f_denoted f_law_tape f_law_draw f_law_reserved f_law_words f_law_text f_law_texts f_law_many f_law_textual f_law_tables f_law_value_words f_law_operand f_law_condition f_law_expression f_law_shape f_law_cell f_law_holds f_law_given f_law_large f_law_any_tables f_law_deeper f_law : Addr} {od_cell_of od_rows_by_name od_cells_by_name od_is_true od_given_cell od_denoted od_law_tape od_law_draw od_law_reserved od_law_words od_law_text od_law_texts od_law_many od_law_textual od_law_tables od_law_value_words od_law_operand od_law_condition od_law_expression od_law_shape od_law_cell od_law_holds od_law_given od_law_large od_law_any_tables od_law_deeper od_law an_cell_of an_rows_by_name an_cells_by_name an_is_true an_given_cell an_denoted an_law_tape an_law_draw an_law_reserved an_law_words an_law_text an_law_texts an_law_many an_law_textual an_law_tables an_law_value_words an_law_operand an_law_condition an_law_expression an_law_shape an_law_cell an_law_holds an_law_given an_law_large an_law_any_tables an_law_deeper an_law : Option Addr} {sl_cell_of sl_rows_by_name sl_cells_by_name sl_is_true sl_given_cell sl_denoted sl_law_tape sl_law_draw sl_law_reserved sl_law_words sl_law_text sl_law_texts sl_law_many sl_law_textual sl_law_tables sl_law_value_words sl_law_operand sl_law_condition sl_law_expression sl_law_shape sl_law_cell sl_law_holds sl_law_given sl_law_large sl_law_any_tables sl_law_deeper sl_law : Array (Option Value)} {oc_cell_of kV_cell_of dc_cell_of pm_cell_of cd_cell_of ct_cell_of oc_rows_by_name kV_rows_by_name dc_rows_by_name pm_rows_by_name cd_rows_by_name ct_rows_by_name oc_cells_by_name kV_cells_by_name dc_cells_by_name pm_cells_by_name cd_cells_by_name ct_cells_by_name oc_is_true kV_is_true dc_is_true pm_is_true ct_is_true oc_given_cell kV_given_cell dc_given_cell pm_given_cell cd_given_cell ct_given_cell oc_denoted kV_denoted dc_denoted pm_denoted cd_denoted ct_denoted oc_law_tape kV_law_tape dc_law_tape pm_law_tape cd_law_tape ct_law_tape oc_law_draw kV_law_draw dc_law_draw pm_law_draw cd_law_draw ct_law_draw oc_law_reserved kV_law_reserved dc_law_reserved pm_law_reserved cd_law_reserved ct_law_reserved oc_law_words kV_law_words dc_law_words pm_law_words cd_law_words ct_law_words oc_law_text kV_law_text dc_law_text pm_law_text cd_law_text ct_law_text oc_law_texts kV_law_texts dc_law_texts pm_law_texts cd_law_texts ct_law_texts oc_law_many kV_law_many dc_law_many pm_law_many cd_law_many ct_law_many oc_law_textual kV_law_textual dc_law_textual pm_law_textual cd_law_textual ct_law_textual oc_law_tables kV_law_tables dc_law_tables pm_law_tables cd_law_tables ct_law_tables oc_law_value_words kV_law_value_words dc_law_value_words pm_law_value_words cd_law_value_words ct_law_value_words oc_law_operand kV_law_operand dc_law_operand pm_law_operand cd_law_operand ct_law_operand oc_law_condition kV_law_condition dc_law_condition pm_law_condition cd_law_condition ct_law_condition oc_law_expression kV_law_expression dc_law_expression pm_law_expression cd_law_expression ct_law_expression oc_law_shape kV_law_shape dc_law_shape pm_law_shape cd_law_shape ct_law_shape oc_law_cell kV_law_cell dc_law_cell pm_law_cell cd_law_cell ct_law_cell oc_law_holds kV_law_holds dc_law_holds pm_law_holds cd_law_holds ct_law_holds oc_law_given kV_law_given dc_law_given pm_law_given cd_law_given ct_law_given oc_law_large kV_law_large dc_law_large pm_law_large cd_law_large ct_law_large oc_law_any_tables kV_law_any_tables dc_law_any_tables pm_law_any_tables cd_law_any_tables ct_law_any_tables oc_law_deeper kV_law_deeper dc_law_deeper pm_law_deeper cd_law_deeper ct_law_deeper oc_law kV_law dc_law pm_law cd_law ct_law : Value} {gc_is_true gP_is_true : Addr} {go_is_true : Option Addr} {gv_is_true : Array Value} {gs_is_true : Array (Option Value)}
    (a_cell_of : PySem.W.nsIn K mainGlobals "cell_of" = some (some (.ref f_cell_of)))
    (l_cell_of : K.lookup f_cell_of = some ⟨oc_cell_of, od_cell_of, .func (PySem.W.fnOf "cell_of" "cell_of" (defArgs s_cell_of) (defBody s_cell_of) (defScope s_cell_of) .none kV_cell_of dc_cell_of pm_cell_of an_cell_of cd_cell_of ct_cell_of), sl_cell_of⟩)
    (c_cell_of : PySem.W.codeIn K cd_cell_of "cell_of" = true) (k_cell_of : PySem.W.keepIn K (.ref f_cell_of) = true)
    (a_rows_by_name : PySem.W.nsIn K mainGlobals "rows_by_name" = some (some (.ref f_rows_by_name)))
    (l_rows_by_name : K.lookup f_rows_by_name = some ⟨oc_rows_by_name, od_rows_by_name, .func (PySem.W.fnOf "rows_by_name" "rows_by_name" (defArgs s_rows_by_name) (defBody s_rows_by_name) (defScope s_rows_by_name) .none kV_rows_by_name dc_rows_by_name pm_rows_by_name an_rows_by_name cd_rows_by_name ct_rows_by_name), sl_rows_by_name⟩)
    (c_rows_by_name : PySem.W.codeIn K cd_rows_by_name "rows_by_name" = true) (k_rows_by_name : PySem.W.keepIn K (.ref f_rows_by_name) = true)
    (a_cells_by_name : PySem.W.nsIn K mainGlobals "cells_by_name" = some (some (.ref f_cells_by_name)))
    (l_cells_by_name : K.lookup f_cells_by_name = some ⟨oc_cells_by_name, od_cells_by_name, .func (PySem.W.fnOf "cells_by_name" "cells_by_name" (defArgs s_cells_by_name) (defBody s_cells_by_name) (defScope s_cells_by_name) .none kV_cells_by_name dc_cells_by_name pm_cells_by_name an_cells_by_name cd_cells_by_name ct_cells_by_name), sl_cells_by_name⟩)
    (c_cells_by_name : PySem.W.codeIn K cd_cells_by_name "cells_by_name" = true) (k_cells_by_name : PySem.W.keepIn K (.ref f_cells_by_name) = true)
    (a_is_true : PySem.W.nsIn K mainGlobals "is_true" = some (some (.ref f_is_true)))
    (l_is_true : K.lookup f_is_true = some ⟨oc_is_true, od_is_true, .func (PySem.W.fnOf "is_true" "is_true" (defArgs s_is_true) (defBody s_is_true) (defScope s_is_true) .none kV_is_true dc_is_true pm_is_true an_is_true (.ref gc_is_true) ct_is_true), sl_is_true⟩)
    (c_is_true : PySem.W.codeIn K (.ref gc_is_true) "is_true" = true) (k_is_true : PySem.W.keepIn K (.ref f_is_true) = true)
    (a_given_cell : PySem.W.nsIn K mainGlobals "given_cell" = some (some (.ref f_given_cell)))
    (l_given_cell : K.lookup f_given_cell = some ⟨oc_given_cell, od_given_cell, .func (PySem.W.fnOf "given_cell" "given_cell" (defArgs s_given_cell) (defBody s_given_cell) (defScope s_given_cell) .none kV_given_cell dc_given_cell pm_given_cell an_given_cell cd_given_cell ct_given_cell), sl_given_cell⟩)
    (c_given_cell : PySem.W.codeIn K cd_given_cell "given_cell" = true) (k_given_cell : PySem.W.keepIn K (.ref f_given_cell) = true)
    (a_denoted : PySem.W.nsIn K mainGlobals "denoted" = some (some (.ref f_denoted)))
    (l_denoted : K.lookup f_denoted = some ⟨oc_denoted, od_denoted, .func (PySem.W.fnOf "denoted" "denoted" (defArgs s_denoted) (defBody s_denoted) (defScope s_denoted) .none kV_denoted dc_denoted pm_denoted an_denoted cd_denoted ct_denoted), sl_denoted⟩)
    (c_denoted : PySem.W.codeIn K cd_denoted "denoted" = true) (k_denoted : PySem.W.keepIn K (.ref f_denoted) = true)
    (a_law_tape : PySem.W.nsIn K mainGlobals "_law_tape" = some (some (.ref f_law_tape)))
    (l_law_tape : K.lookup f_law_tape = some ⟨oc_law_tape, od_law_tape, .func (PySem.W.fnOf "_law_tape" "_law_tape" (defArgs s_law_tape) (defBody s_law_tape) (defScope s_law_tape) .none kV_law_tape dc_law_tape pm_law_tape an_law_tape cd_law_tape ct_law_tape), sl_law_tape⟩)
    (c_law_tape : PySem.W.codeIn K cd_law_tape "_law_tape" = true) (k_law_tape : PySem.W.keepIn K (.ref f_law_tape) = true)
    (a_law_draw : PySem.W.nsIn K mainGlobals "_law_draw" = some (some (.ref f_law_draw)))
    (l_law_draw : K.lookup f_law_draw = some ⟨oc_law_draw, od_law_draw, .func (PySem.W.fnOf "_law_draw" "_law_draw" (defArgs s_law_draw) (defBody s_law_draw) (defScope s_law_draw) .none kV_law_draw dc_law_draw pm_law_draw an_law_draw cd_law_draw ct_law_draw), sl_law_draw⟩)
    (c_law_draw : PySem.W.codeIn K cd_law_draw "_law_draw" = true) (k_law_draw : PySem.W.keepIn K (.ref f_law_draw) = true)
    (a_law_reserved : PySem.W.nsIn K mainGlobals "_law_reserved" = some (some (.ref f_law_reserved)))
    (l_law_reserved : K.lookup f_law_reserved = some ⟨oc_law_reserved, od_law_reserved, .func (PySem.W.fnOf "_law_reserved" "_law_reserved" (defArgs s_law_reserved) (defBody s_law_reserved) (defScope s_law_reserved) .none kV_law_reserved dc_law_reserved pm_law_reserved an_law_reserved cd_law_reserved ct_law_reserved), sl_law_reserved⟩)
    (c_law_reserved : PySem.W.codeIn K cd_law_reserved "_law_reserved" = true) (k_law_reserved : PySem.W.keepIn K (.ref f_law_reserved) = true)
    (a_law_words : PySem.W.nsIn K mainGlobals "_law_words" = some (some (.ref f_law_words)))
    (l_law_words : K.lookup f_law_words = some ⟨oc_law_words, od_law_words, .func (PySem.W.fnOf "_law_words" "_law_words" (defArgs s_law_words) (defBody s_law_words) (defScope s_law_words) .none kV_law_words dc_law_words pm_law_words an_law_words cd_law_words ct_law_words), sl_law_words⟩)
    (c_law_words : PySem.W.codeIn K cd_law_words "_law_words" = true) (k_law_words : PySem.W.keepIn K (.ref f_law_words) = true)
    (a_law_text : PySem.W.nsIn K mainGlobals "_law_text" = some (some (.ref f_law_text)))
    (l_law_text : K.lookup f_law_text = some ⟨oc_law_text, od_law_text, .func (PySem.W.fnOf "_law_text" "_law_text" (defArgs s_law_text) (defBody s_law_text) (defScope s_law_text) .none kV_law_text dc_law_text pm_law_text an_law_text cd_law_text ct_law_text), sl_law_text⟩)
    (c_law_text : PySem.W.codeIn K cd_law_text "_law_text" = true) (k_law_text : PySem.W.keepIn K (.ref f_law_text) = true)
    (a_law_texts : PySem.W.nsIn K mainGlobals "_law_texts" = some (some (.ref f_law_texts)))
    (l_law_texts : K.lookup f_law_texts = some ⟨oc_law_texts, od_law_texts, .func (PySem.W.fnOf "_law_texts" "_law_texts" (defArgs s_law_texts) (defBody s_law_texts) (defScope s_law_texts) .none kV_law_texts dc_law_texts pm_law_texts an_law_texts cd_law_texts ct_law_texts), sl_law_texts⟩)
    (c_law_texts : PySem.W.codeIn K cd_law_texts "_law_texts" = true) (k_law_texts : PySem.W.keepIn K (.ref f_law_texts) = true)
    (a_law_many : PySem.W.nsIn K mainGlobals "_law_many" = some (some (.ref f_law_many)))
    (l_law_many : K.lookup f_law_many = some ⟨oc_law_many, od_law_many, .func (PySem.W.fnOf "_law_many" "_law_many" (defArgs s_law_many) (defBody s_law_many) (defScope s_law_many) .none kV_law_many dc_law_many pm_law_many an_law_many cd_law_many ct_law_many), sl_law_many⟩)
    (c_law_many : PySem.W.codeIn K cd_law_many "_law_many" = true) (k_law_many : PySem.W.keepIn K (.ref f_law_many) = true)
    (a_law_textual : PySem.W.nsIn K mainGlobals "_law_textual" = some (some (.ref f_law_textual)))
    (l_law_textual : K.lookup f_law_textual = some ⟨oc_law_textual, od_law_textual, .func (PySem.W.fnOf "_law_textual" "_law_textual" (defArgs s_law_textual) (defBody s_law_textual) (defScope s_law_textual) .none kV_law_textual dc_law_textual pm_law_textual an_law_textual cd_law_textual ct_law_textual), sl_law_textual⟩)
    (c_law_textual : PySem.W.codeIn K cd_law_textual "_law_textual" = true) (k_law_textual : PySem.W.keepIn K (.ref f_law_textual) = true)
    (a_law_tables : PySem.W.nsIn K mainGlobals "_law_tables" = some (some (.ref f_law_tables)))
    (l_law_tables : K.lookup f_law_tables = some ⟨oc_law_tables, od_law_tables, .func (PySem.W.fnOf "_law_tables" "_law_tables" (defArgs s_law_tables) (defBody s_law_tables) (defScope s_law_tables) .none kV_law_tables dc_law_tables pm_law_tables an_law_tables cd_law_tables ct_law_tables), sl_law_tables⟩)
    (c_law_tables : PySem.W.codeIn K cd_law_tables "_law_tables" = true) (k_law_tables : PySem.W.keepIn K (.ref f_law_tables) = true)
    (a_law_value_words : PySem.W.nsIn K mainGlobals "_law_value_words" = some (some (.ref f_law_value_words)))
    (l_law_value_words : K.lookup f_law_value_words = some ⟨oc_law_value_words, od_law_value_words, .func (PySem.W.fnOf "_law_value_words" "_law_value_words" (defArgs s_law_value_words) (defBody s_law_value_words) (defScope s_law_value_words) .none kV_law_value_words dc_law_value_words pm_law_value_words an_law_value_words cd_law_value_words ct_law_value_words), sl_law_value_words⟩)
    (c_law_value_words : PySem.W.codeIn K cd_law_value_words "_law_value_words" = true) (k_law_value_words : PySem.W.keepIn K (.ref f_law_value_words) = true)
    (a_law_operand : PySem.W.nsIn K mainGlobals "_law_operand" = some (some (.ref f_law_operand)))
    (l_law_operand : K.lookup f_law_operand = some ⟨oc_law_operand, od_law_operand, .func (PySem.W.fnOf "_law_operand" "_law_operand" (defArgs s_law_operand) (defBody s_law_operand) (defScope s_law_operand) .none kV_law_operand dc_law_operand pm_law_operand an_law_operand cd_law_operand ct_law_operand), sl_law_operand⟩)
    (c_law_operand : PySem.W.codeIn K cd_law_operand "_law_operand" = true) (k_law_operand : PySem.W.keepIn K (.ref f_law_operand) = true)
    (a_law_condition : PySem.W.nsIn K mainGlobals "_law_condition" = some (some (.ref f_law_condition)))
    (l_law_condition : K.lookup f_law_condition = some ⟨oc_law_condition, od_law_condition, .func (PySem.W.fnOf "_law_condition" "_law_condition" (defArgs s_law_condition) (defBody s_law_condition) (defScope s_law_condition) .none kV_law_condition dc_law_condition pm_law_condition an_law_condition cd_law_condition ct_law_condition), sl_law_condition⟩)
    (c_law_condition : PySem.W.codeIn K cd_law_condition "_law_condition" = true) (k_law_condition : PySem.W.keepIn K (.ref f_law_condition) = true)
    (a_law_expression : PySem.W.nsIn K mainGlobals "_law_expression" = some (some (.ref f_law_expression)))
    (l_law_expression : K.lookup f_law_expression = some ⟨oc_law_expression, od_law_expression, .func (PySem.W.fnOf "_law_expression" "_law_expression" (defArgs s_law_expression) (defBody s_law_expression) (defScope s_law_expression) .none kV_law_expression dc_law_expression pm_law_expression an_law_expression cd_law_expression ct_law_expression), sl_law_expression⟩)
    (c_law_expression : PySem.W.codeIn K cd_law_expression "_law_expression" = true) (k_law_expression : PySem.W.keepIn K (.ref f_law_expression) = true)
    (a_law_shape : PySem.W.nsIn K mainGlobals "_law_shape" = some (some (.ref f_law_shape)))
    (l_law_shape : K.lookup f_law_shape = some ⟨oc_law_shape, od_law_shape, .func (PySem.W.fnOf "_law_shape" "_law_shape" (defArgs s_law_shape) (defBody s_law_shape) (defScope s_law_shape) .none kV_law_shape dc_law_shape pm_law_shape an_law_shape cd_law_shape ct_law_shape), sl_law_shape⟩)
    (c_law_shape : PySem.W.codeIn K cd_law_shape "_law_shape" = true) (k_law_shape : PySem.W.keepIn K (.ref f_law_shape) = true)
    (a_law_cell : PySem.W.nsIn K mainGlobals "_law_cell" = some (some (.ref f_law_cell)))
    (l_law_cell : K.lookup f_law_cell = some ⟨oc_law_cell, od_law_cell, .func (PySem.W.fnOf "_law_cell" "_law_cell" (defArgs s_law_cell) (defBody s_law_cell) (defScope s_law_cell) .none kV_law_cell dc_law_cell pm_law_cell an_law_cell cd_law_cell ct_law_cell), sl_law_cell⟩)
    (c_law_cell : PySem.W.codeIn K cd_law_cell "_law_cell" = true) (k_law_cell : PySem.W.keepIn K (.ref f_law_cell) = true)
    (a_law_holds : PySem.W.nsIn K mainGlobals "_law_holds" = some (some (.ref f_law_holds)))
    (l_law_holds : K.lookup f_law_holds = some ⟨oc_law_holds, od_law_holds, .func (PySem.W.fnOf "_law_holds" "_law_holds" (defArgs s_law_holds) (defBody s_law_holds) (defScope s_law_holds) .none kV_law_holds dc_law_holds pm_law_holds an_law_holds cd_law_holds ct_law_holds), sl_law_holds⟩)
    (c_law_holds : PySem.W.codeIn K cd_law_holds "_law_holds" = true) (k_law_holds : PySem.W.keepIn K (.ref f_law_holds) = true)
    (a_law_given : PySem.W.nsIn K mainGlobals "_law_given" = some (some (.ref f_law_given)))
    (l_law_given : K.lookup f_law_given = some ⟨oc_law_given, od_law_given, .func (PySem.W.fnOf "_law_given" "_law_given" (defArgs s_law_given) (defBody s_law_given) (defScope s_law_given) .none kV_law_given dc_law_given pm_law_given an_law_given cd_law_given ct_law_given), sl_law_given⟩)
    (c_law_given : PySem.W.codeIn K cd_law_given "_law_given" = true) (k_law_given : PySem.W.keepIn K (.ref f_law_given) = true)
    (a_law_large : PySem.W.nsIn K mainGlobals "_law_large" = some (some (.ref f_law_large)))
    (l_law_large : K.lookup f_law_large = some ⟨oc_law_large, od_law_large, .func (PySem.W.fnOf "_law_large" "_law_large" (defArgs s_law_large) (defBody s_law_large) (defScope s_law_large) .none kV_law_large dc_law_large pm_law_large an_law_large cd_law_large ct_law_large), sl_law_large⟩)
    (c_law_large : PySem.W.codeIn K cd_law_large "_law_large" = true) (k_law_large : PySem.W.keepIn K (.ref f_law_large) = true)
    (a_law_any_tables : PySem.W.nsIn K mainGlobals "_law_any_tables" = some (some (.ref f_law_any_tables)))
    (l_law_any_tables : K.lookup f_law_any_tables = some ⟨oc_law_any_tables, od_law_any_tables, .func (PySem.W.fnOf "_law_any_tables" "_law_any_tables" (defArgs s_law_any_tables) (defBody s_law_any_tables) (defScope s_law_any_tables) .none kV_law_any_tables dc_law_any_tables pm_law_any_tables an_law_any_tables cd_law_any_tables ct_law_any_tables), sl_law_any_tables⟩)
    (c_law_any_tables : PySem.W.codeIn K cd_law_any_tables "_law_any_tables" = true) (k_law_any_tables : PySem.W.keepIn K (.ref f_law_any_tables) = true)
    (a_law_deeper : PySem.W.nsIn K mainGlobals "_law_deeper" = some (some (.ref f_law_deeper)))
    (l_law_deeper : K.lookup f_law_deeper = some ⟨oc_law_deeper, od_law_deeper, .func (PySem.W.fnOf "_law_deeper" "_law_deeper" (defArgs s_law_deeper) (defBody s_law_deeper) (defScope s_law_deeper) .none kV_law_deeper dc_law_deeper pm_law_deeper an_law_deeper cd_law_deeper ct_law_deeper), sl_law_deeper⟩)
    (c_law_deeper : PySem.W.codeIn K cd_law_deeper "_law_deeper" = true) (k_law_deeper : PySem.W.keepIn K (.ref f_law_deeper) = true)
    (a_law : PySem.W.nsIn K mainGlobals "law" = some (some (.ref f_law)))
    (l_law : K.lookup f_law = some ⟨oc_law, od_law, .func (PySem.W.fnOf "law" "law" (defArgs s_law) (defBody s_law) (defScope s_law) .none kV_law dc_law pm_law an_law cd_law ct_law), sl_law⟩)
    (c_law : PySem.W.codeIn K cd_law "law" = true) (k_law : PySem.W.keepIn K (.ref f_law) = true)
    (z_abs : PySem.W.nsIn K mainGlobals "abs" = some none)
    (z_all : PySem.W.nsIn K mainGlobals "all" = some none)
    (z_any : PySem.W.nsIn K mainGlobals "any" = some none)
    (z_int : PySem.W.nsIn K mainGlobals "int" = some none)
    (z_len : PySem.W.nsIn K mainGlobals "len" = some none)
    (z_list : PySem.W.nsIn K mainGlobals "list" = some none)
    (z_max : PySem.W.nsIn K mainGlobals "max" = some none)
    (z_min : PySem.W.nsIn K mainGlobals "min" = some none)
    (z_range : PySem.W.nsIn K mainGlobals "range" = some none)
    (z_str : PySem.W.nsIn K mainGlobals "str" = some none)
    (z_sum : PySem.W.nsIn K mainGlobals "sum" = some none)
    (z_tuple : PySem.W.nsIn K mainGlobals "tuple" = some none)
    (z_zip : PySem.W.nsIn K mainGlobals "zip" = some none)
    (v_is_true : K.lookup gc_is_true = some ⟨.type "code", go_is_true, .fields gv_is_true, gs_is_true⟩) (w_is_true : gv_is_true[11]? = some (.ref gP_is_true)) (r_is_true : hdB gv_is_true gc_is_true gP_is_true = true) (j_is_true : PySem.W.tabIn K "is_true" = some (gc_is_true, gP_is_true)) (u_is_true : PySem.W.tabIn K "is_true" = some (gc_is_true, gP_is_true) → h.get? gP_is_true = some { cls := .none, data := .fields #[] }) :
    ∃ (fd : FuncData) (cs : List (Addr × Addr)), (∀ p ∈ cs, h.get? p.2 = some { cls := .none, data := .fields #[] }) ∧ (∀ p ∈ cs, PySem.W.codeHdIn K p.1 p.2 = true) ∧
      (∀ (s : Shared) (u : Value), BindsTo s fd ⟨[u], []⟩ [("script", u)]) ∧ ∀ base : Heap, (dropT K).In base → base.Ns mainGlobals mg → @Bs ⟨cs.map (·.2)⟩ base mg → FnOk l.prog w (dropT K) mg base L2.CX0 77 fa fd ["script"] (@spLawT ⟨cs.map (·.2)⟩ (dropT K)) := by
  have e := hfa.symm.trans (PySem.W.mg_of X G a_law)
  cases e
  have T : Txt mg := ⟨PySem.W.mg_none_of X G z_abs, PySem.W.mg_none_of X G z_all, PySem.W.mg_none_of X G z_any, PySem.W.mg_none_of X G z_int, PySem.W.mg_none_of X G z_len, PySem.W.mg_none_of X G z_list, PySem.W.mg_none_of X G z_max, PySem.W.mg_none_of X G z_min, PySem.W.mg_none_of X G z_range, PySem.W.mg_none_of X G z_str, PySem.W.mg_none_of X G z_sum, PySem.W.mg_none_of X G z_tuple, PySem.W.mg_none_of X G z_zip⟩
  have XD : (dropT K).In h := drop_in X
  letI tb : Tb := ⟨([(gc_is_true, gP_is_true)] : List (Addr × Addr)).map (·.2)⟩
  let D_cell_of : Df (dropT K) mg "cell_of" s_cell_of ["tables", "expression", "record"] := df_mk XD G (ns_drop a_cell_of) (fn_drop l_cell_of) (code_drop c_cell_of) (kp_drop l_cell_of) fun _ _ _ _ _ _ us hl => match us, hl with | [_, _, _], _ => rfl
  let D_rows_by_name : Df (dropT K) mg "rows_by_name" s_rows_by_name ["tables", "record"] := df_mk XD G (ns_drop a_rows_by_name) (fn_drop l_rows_by_name) (code_drop c_rows_by_name) (kp_drop l_rows_by_name) fun _ _ _ _ _ _ us hl => match us, hl with | [_, _], _ => rfl
  let D_cells_by_name : Df (dropT K) mg "cells_by_name" s_cells_by_name ["columns", "row"] := df_mk XD G (ns_drop a_cells_by_name) (fn_drop l_cells_by_name) (code_drop c_cells_by_name) (kp_drop l_cells_by_name) fun _ _ _ _ _ _ us hl => match us, hl with | [_, _], _ => rfl
  let D_is_true : Df (dropT K) mg "is_true" s_is_true ["condition", "rows"] := df_mk XD G (ns_drop a_is_true) (fn_drop l_is_true) (code_drop c_is_true) (kp_drop l_is_true) fun _ _ _ _ _ _ us hl => match us, hl with | [_, _], _ => rfl
  let D_given_cell : Df (dropT K) mg "given_cell" s_given_cell ["expression", "rows"] := df_mk XD G (ns_drop a_given_cell) (fn_drop l_given_cell) (code_drop c_given_cell) (kp_drop l_given_cell) fun _ _ _ _ _ _ us hl => match us, hl with | [_, _], _ => rfl
  let D_denoted : Df (dropT K) mg "denoted" s_denoted ["operand", "rows"] := df_mk XD G (ns_drop a_denoted) (fn_drop l_denoted) (code_drop c_denoted) (kp_drop l_denoted) fun _ _ _ _ _ _ us hl => match us, hl with | [_, _], _ => rfl
  let D_law_tape : Df (dropT K) mg "_law_tape" s_law_tape ["script"] := df_mk XD G (ns_drop a_law_tape) (fn_drop l_law_tape) (code_drop c_law_tape) (kp_drop l_law_tape) fun _ _ _ _ _ _ us hl => match us, hl with | [_], _ => rfl
  let D_law_draw : Df (dropT K) mg "_law_draw" s_law_draw ["tape", "many"] := df_mk XD G (ns_drop a_law_draw) (fn_drop l_law_draw) (code_drop c_law_draw) (kp_drop l_law_draw) fun _ _ _ _ _ _ us hl => match us, hl with | [_, _], _ => rfl
  let D_law_reserved : Df (dropT K) mg "_law_reserved" s_law_reserved [] := df_mk XD G (ns_drop a_law_reserved) (fn_drop l_law_reserved) (code_drop c_law_reserved) (kp_drop l_law_reserved) fun _ _ _ _ _ _ us hl => match us, hl with | [], _ => rfl
  let D_law_words : Df (dropT K) mg "_law_words" s_law_words ["tape", "many", "taken"] := df_mk XD G (ns_drop a_law_words) (fn_drop l_law_words) (code_drop c_law_words) (kp_drop l_law_words) fun _ _ _ _ _ _ us hl => match us, hl with | [_, _, _], _ => rfl
  let D_law_text : Df (dropT K) mg "_law_text" s_law_text ["tape"] := df_mk XD G (ns_drop a_law_text) (fn_drop l_law_text) (code_drop c_law_text) (kp_drop l_law_text) fun _ _ _ _ _ _ us hl => match us, hl with | [_], _ => rfl
  let D_law_texts : Df (dropT K) mg "_law_texts" s_law_texts ["tape", "many", "taken"] := df_mk XD G (ns_drop a_law_texts) (fn_drop l_law_texts) (code_drop c_law_texts) (kp_drop l_law_texts) fun _ _ _ _ _ _ us hl => match us, hl with | [_, _, _], _ => rfl
  let D_law_many : Df (dropT K) mg "_law_many" s_law_many ["tables", "many"] := df_mk XD G (ns_drop a_law_many) (fn_drop l_law_many) (code_drop c_law_many) (kp_drop l_law_many) fun _ _ _ _ _ _ us hl => match us, hl with | [_, _], _ => rfl
  let D_law_textual : Df (dropT K) mg "_law_textual" s_law_textual ["tables"] := df_mk XD G (ns_drop a_law_textual) (fn_drop l_law_textual) (code_drop c_law_textual) (kp_drop l_law_textual) fun _ _ _ _ _ _ us hl => match us, hl with | [_], _ => rfl
  let D_law_tables : Df (dropT K) mg "_law_tables" s_law_tables ["tape", "most", "many", "width"] := df_mk XD G (ns_drop a_law_tables) (fn_drop l_law_tables) (code_drop c_law_tables) (kp_drop l_law_tables) fun _ _ _ _ _ _ us hl => match us, hl with | [_, _, _, _], _ => rfl
  let D_law_value_words : Df (dropT K) mg "_law_value_words" s_law_value_words ["tables"] := df_mk XD G (ns_drop a_law_value_words) (fn_drop l_law_value_words) (code_drop c_law_value_words) (kp_drop l_law_value_words) fun _ _ _ _ _ _ us hl => match us, hl with | [_], _ => rfl
  let D_law_operand : Df (dropT K) mg "_law_operand" s_law_operand ["tape", "tables", "pool", "words", "textual"] := df_mk XD G (ns_drop a_law_operand) (fn_drop l_law_operand) (code_drop c_law_operand) (kp_drop l_law_operand) fun _ _ _ _ _ _ us hl => match us, hl with | [_, _, _, _, _], _ => rfl
  let D_law_condition : Df (dropT K) mg "_law_condition" s_law_condition ["tape", "tables", "pool", "words", "deep"] := df_mk XD G (ns_drop a_law_condition) (fn_drop l_law_condition) (code_drop c_law_condition) (kp_drop l_law_condition) fun _ _ _ _ _ _ us hl => match us, hl with | [_, _, _, _, _], _ => rfl
  let D_law_expression : Df (dropT K) mg "_law_expression" s_law_expression ["tape", "tables", "pool", "words", "textual", "deep"] := df_mk XD G (ns_drop a_law_expression) (fn_drop l_law_expression) (code_drop c_law_expression) (kp_drop l_law_expression) fun _ _ _ _ _ _ us hl => match us, hl with | [_, _, _, _, _, _], _ => rfl
  let D_law_shape : Df (dropT K) mg "_law_shape" s_law_shape ["tape", "tables", "texts"] := df_mk XD G (ns_drop a_law_shape) (fn_drop l_law_shape) (code_drop c_law_shape) (kp_drop l_law_shape) fun _ _ _ _ _ _ us hl => match us, hl with | [_, _, _], _ => rfl
  let D_law_cell : Df (dropT K) mg "_law_cell" s_law_cell ["tables", "operand", "record"] := df_mk XD G (ns_drop a_law_cell) (fn_drop l_law_cell) (code_drop c_law_cell) (kp_drop l_law_cell) fun _ _ _ _ _ _ us hl => match us, hl with | [_, _, _], _ => rfl
  let D_law_holds : Df (dropT K) mg "_law_holds" s_law_holds ["tables", "condition", "record"] := df_mk XD G (ns_drop a_law_holds) (fn_drop l_law_holds) (code_drop c_law_holds) (kp_drop l_law_holds) fun _ _ _ _ _ _ us hl => match us, hl with | [_, _, _], _ => rfl
  let D_law_given : Df (dropT K) mg "_law_given" s_law_given ["tables", "expression", "record"] := df_mk XD G (ns_drop a_law_given) (fn_drop l_law_given) (code_drop c_law_given) (kp_drop l_law_given) fun _ _ _ _ _ _ us hl => match us, hl with | [_, _, _], _ => rfl
  let D_law_large : Df (dropT K) mg "_law_large" s_law_large ["tape", "widest"] := df_mk XD G (ns_drop a_law_large) (fn_drop l_law_large) (code_drop c_law_large) (kp_drop l_law_large) fun _ _ _ _ _ _ us hl => match us, hl with | [_, _], _ => rfl
  let D_law_any_tables : Df (dropT K) mg "_law_any_tables" s_law_any_tables ["tape", "widest"] := df_mk XD G (ns_drop a_law_any_tables) (fn_drop l_law_any_tables) (code_drop c_law_any_tables) (kp_drop l_law_any_tables) fun _ _ _ _ _ _ us hl => match us, hl with | [_, _], _ => rfl
  let D_law_deeper : Df (dropT K) mg "_law_deeper" s_law_deeper ["tape", "expression", "others", "many"] := df_mk XD G (ns_drop a_law_deeper) (fn_drop l_law_deeper) (code_drop c_law_deeper) (kp_drop l_law_deeper) fun _ _ _ _ _ _ us hl => match us, hl with | [_, _, _, _], _ => rfl
  let D_law : Df (dropT K) mg "law" s_law ["script"] := df_mk XD G (ns_drop a_law) (fn_drop l_law) (code_drop c_law) (kp_drop l_law) fun _ _ _ _ _ _ us hl => match us, hl with | [_], _ => rfl
  let D : Ds (dropT K) mg := ⟨D_cell_of, D_rows_by_name, D_cells_by_name, D_is_true, D_given_cell, D_denoted, D_law_tape, D_law_draw, D_law_reserved, D_law_words, D_law_text, D_law_texts, D_law_many, D_law_textual, D_law_tables, D_law_value_words, D_law_operand, D_law_condition, D_law_expression, D_law_shape, D_law_cell, D_law_holds, D_law_given, D_law_large, D_law_any_tables, D_law_deeper, D_law, ⟨gc_is_true, gP_is_true, rfl, hd_drop (hd_of v_is_true r_is_true), by show gP_is_true ∈ ([(gc_is_true, gP_is_true)] : List (Addr × Addr)).map (·.2); simp⟩⟩
  refine ⟨D.law.fd, [(gc_is_true, gP_is_true)], ?_, ?_, fun s v => .of_eq rfl, fun base _ _ hB => ?_⟩
  · exact fun p hp => by
        simp only [List.mem_cons, List.not_mem_nil, or_false] at hp
        rcases hp with rfl
        · exact u_is_true j_is_true
  · exact fun p hp => by
        simp only [List.mem_cons, List.not_mem_nil, or_false] at hp
        rcases hp with rfl
        · exact hd_of v_is_true r_is_true
  · letI := hB
    exact ok_law D T
end K10
open PySem PySem.W PyProof.Rows
set_option maxRecDepth 100000 in
set_option maxHeartbeats 0 in
theorem PySem.Challenge.cw_migraproof_k10_cell_of_an_expression_holds : PySem.Challenge.rw_migraproof_k10_cell_of_an_expression.Holds := by
  w_on; o_law; k_head; (case hw => w_witness2)
  k_fill
  refine Mx.walk_tab (l := PySem.Challenge.rw_migraproof_k10_cell_of_an_expression) (n := 63) (k := 77) (x := "script") rfl (by decide) rfl ⟨rfl, by decide, by decide⟩ (fun w h Y => PySem.W.kIn_of Y) ?F
  case F =>
    intro w mg fa h KX G hmg tabs
    refine' K10.all_mk KX G hmg ?a_cell_of ?l_cell_of ?c_cell_of ?k_cell_of ?a_rows_by_name ?l_rows_by_name ?c_rows_by_name ?k_rows_by_name ?a_cells_by_name ?l_cells_by_name ?c_cells_by_name ?k_cells_by_name ?a_is_true ?l_is_true ?c_is_true ?k_is_true ?a_given_cell ?l_given_cell ?c_given_cell ?k_given_cell ?a_denoted ?l_denoted ?c_denoted ?k_denoted ?a_law_tape ?l_law_tape ?c_law_tape ?k_law_tape ?a_law_draw ?l_law_draw ?c_law_draw ?k_law_draw ?a_law_reserved ?l_law_reserved ?c_law_reserved ?k_law_reserved ?a_law_words ?l_law_words ?c_law_words ?k_law_words ?a_law_text ?l_law_text ?c_law_text ?k_law_text ?a_law_texts ?l_law_texts ?c_law_texts ?k_law_texts ?a_law_many ?l_law_many ?c_law_many ?k_law_many ?a_law_textual ?l_law_textual ?c_law_textual ?k_law_textual ?a_law_tables ?l_law_tables ?c_law_tables ?k_law_tables ?a_law_value_words ?l_law_value_words ?c_law_value_words ?k_law_value_words ?a_law_operand ?l_law_operand ?c_law_operand ?k_law_operand ?a_law_condition ?l_law_condition ?c_law_condition ?k_law_condition ?a_law_expression ?l_law_expression ?c_law_expression ?k_law_expression ?a_law_shape ?l_law_shape ?c_law_shape ?k_law_shape ?a_law_cell ?l_law_cell ?c_law_cell ?k_law_cell ?a_law_holds ?l_law_holds ?c_law_holds ?k_law_holds ?a_law_given ?l_law_given ?c_law_given ?k_law_given ?a_law_large ?l_law_large ?c_law_large ?k_law_large ?a_law_any_tables ?l_law_any_tables ?c_law_any_tables ?k_law_any_tables ?a_law_deeper ?l_law_deeper ?c_law_deeper ?k_law_deeper ?a_law ?l_law ?c_law ?k_law ?z_abs ?z_all ?z_any ?z_int ?z_len ?z_list ?z_max ?z_min ?z_range ?z_str ?z_sum ?z_tuple ?z_zip ?v_is_true ?w_is_true ?r_is_true ?j_is_true ?u_is_true
    (case a_cell_of => k_is)
    (case l_cell_of => k_is)
    (case c_cell_of => k_is)
    (case k_cell_of => k_is)
    (case a_rows_by_name => k_is)
    (case l_rows_by_name => k_is)
    (case c_rows_by_name => k_is)
    (case k_rows_by_name => k_is)
    (case a_cells_by_name => k_is)
    (case l_cells_by_name => k_is)
    (case c_cells_by_name => k_is)
    (case k_cells_by_name => k_is)
    (case a_is_true => k_is)
    (case l_is_true => k_is)
    (case c_is_true => k_is)
    (case k_is_true => k_is)
    (case a_given_cell => k_is)
    (case l_given_cell => k_is)
    (case c_given_cell => k_is)
    (case k_given_cell => k_is)
    (case a_denoted => k_is)
    (case l_denoted => k_is)
    (case c_denoted => k_is)
    (case k_denoted => k_is)
    (case a_law_tape => k_is)
    (case l_law_tape => k_is)
    (case c_law_tape => k_is)
    (case k_law_tape => k_is)
    (case a_law_draw => k_is)
    (case l_law_draw => k_is)
    (case c_law_draw => k_is)
    (case k_law_draw => k_is)
    (case a_law_reserved => k_is)
    (case l_law_reserved => k_is)
    (case c_law_reserved => k_is)
    (case k_law_reserved => k_is)
    (case a_law_words => k_is)
    (case l_law_words => k_is)
    (case c_law_words => k_is)
    (case k_law_words => k_is)
    (case a_law_text => k_is)
    (case l_law_text => k_is)
    (case c_law_text => k_is)
    (case k_law_text => k_is)
    (case a_law_texts => k_is)
    (case l_law_texts => k_is)
    (case c_law_texts => k_is)
    (case k_law_texts => k_is)
    (case a_law_many => k_is)
    (case l_law_many => k_is)
    (case c_law_many => k_is)
    (case k_law_many => k_is)
    (case a_law_textual => k_is)
    (case l_law_textual => k_is)
    (case c_law_textual => k_is)
    (case k_law_textual => k_is)
    (case a_law_tables => k_is)
    (case l_law_tables => k_is)
    (case c_law_tables => k_is)
    (case k_law_tables => k_is)
    (case a_law_value_words => k_is)
    (case l_law_value_words => k_is)
    (case c_law_value_words => k_is)
    (case k_law_value_words => k_is)
    (case a_law_operand => k_is)
    (case l_law_operand => k_is)
    (case c_law_operand => k_is)
    (case k_law_operand => k_is)
    (case a_law_condition => k_is)
    (case l_law_condition => k_is)
    (case c_law_condition => k_is)
    (case k_law_condition => k_is)
    (case a_law_expression => k_is)
    (case l_law_expression => k_is)
    (case c_law_expression => k_is)
    (case k_law_expression => k_is)
    (case a_law_shape => k_is)
    (case l_law_shape => k_is)
    (case c_law_shape => k_is)
    (case k_law_shape => k_is)
    (case a_law_cell => k_is)
    (case l_law_cell => k_is)
    (case c_law_cell => k_is)
    (case k_law_cell => k_is)
    (case a_law_holds => k_is)
    (case l_law_holds => k_is)
    (case c_law_holds => k_is)
    (case k_law_holds => k_is)
    (case a_law_given => k_is)
    (case l_law_given => k_is)
    (case c_law_given => k_is)
    (case k_law_given => k_is)
    (case a_law_large => k_is)
    (case l_law_large => k_is)
    (case c_law_large => k_is)
    (case k_law_large => k_is)
    (case a_law_any_tables => k_is)
    (case l_law_any_tables => k_is)
    (case c_law_any_tables => k_is)
    (case k_law_any_tables => k_is)
    (case a_law_deeper => k_is)
    (case l_law_deeper => k_is)
    (case c_law_deeper => k_is)
    (case k_law_deeper => k_is)
    (case a_law => k_is)
    (case l_law => k_is)
    (case c_law => k_is)
    (case k_law => k_is)
    (case z_abs => k_is)
    (case z_all => k_is)
    (case z_any => k_is)
    (case z_int => k_is)
    (case z_len => k_is)
    (case z_list => k_is)
    (case z_max => k_is)
    (case z_min => k_is)
    (case z_range => k_is)
    (case z_str => k_is)
    (case z_sum => k_is)
    (case z_tuple => k_is)
    (case z_zip => k_is)
    (case v_is_true => k_is)
    (case w_is_true => rfl)
    (case r_is_true => decide +kernel)
    (case j_is_true => kernel_rfl)
    (case u_is_true => exact fun ht => tabs (y := "is_true") rfl ht)
