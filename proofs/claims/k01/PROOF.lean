import PyProof.Rows.All
import Wide.All
import OpenK.AllK
import Wide.FinOn
import HandS.TupSets
import HandS.SortRule
import HandS.Conv
import KE.KDictPairs
import PyProof.P3In
import HandS.Deep
import HandS.Dict
import HandS.Strs
import HandS.DictTup
import KE.GoesEnum
import HandS.Walk
import HandS.ForMost
import HandS.Exc
import HandS.WordsExc
import HandS.Evl
import HandS.TupLe
import HandS.TupAny
import HandS.Star
import HandS.IsInst
import HandS.More
import PySem.Challenge.RW_idleclauses_k01_whole_bundles
set_option Elab.async false
set_option linter.all false
set_option maxRecDepth 100000
/-! Sorted rows of tuples of ints, of any lengths. -/
namespace Xh
open PySem PySem.Calls PyProof.Rows

/-! ### the order of tuples -/
theorem lex_irr : ∀ x : List Int, HT.lexLt x x = false
  | [] => rfl
  | a :: x => by rw [HT.lexLt_cons, if_pos rfl]; exact lex_irr x
theorem lex_asym : ∀ x y : List Int, HT.lexLt x y = true → HT.lexLt y x = false
  | [], [], h => by cases h
  | [], _ :: _, _ => rfl
  | _ :: _, [], h => by cases h
  | a :: x, b :: y, h => by
    rw [HT.lexLt_cons] at h ⊢
    by_cases e : a = b
    · rw [if_pos e] at h
      rw [if_pos e.symm]
      exact lex_asym x y h
    · rw [if_neg e, decide_eq_true_eq] at h
      rw [if_neg (fun z => e z.symm), decide_eq_false_iff_not]
      omega
theorem lex_tri : ∀ x y : List Int, HT.lexLt x y = false → HT.lexLt y x = false → x = y
  | [], [], _, _ => rfl
  | [], _ :: _, h, _ => by cases h
  | _ :: _, [], _, h => by cases h
  | a :: x, b :: y, h, h' => by
    rw [HT.lexLt_cons] at h h'
    by_cases e : a = b
    · rw [if_pos e] at h
      rw [if_pos e.symm] at h'
      rw [e, lex_tri x y h h']
    · rw [if_neg e, decide_eq_false_iff_not] at h
      rw [if_neg (fun z => e z.symm), decide_eq_false_iff_not] at h'
      omega
theorem lex_trans : ∀ x y z : List Int, HT.lexLt x y = true → HT.lexLt y z = true → HT.lexLt x z = true
  | [], [], _, h, _ => by cases h
  | [], _ :: _, [], _, h => by cases h
  | [], _ :: _, _ :: _, _, _ => rfl
  | _ :: _, [], _, h, _ => by cases h
  | _ :: _, _ :: _, [], _, h => by cases h
  | a :: x, b :: y, c :: z, h, h' => by
    rw [HT.lexLt_cons] at h h' ⊢
    by_cases e : a = b
    · subst e
      rw [if_pos rfl] at h
      by_cases e2 : a = c
      · subst e2
        rw [if_pos rfl] at h' ⊢
        exact lex_trans x y z h h'
      · rw [if_neg e2] at h' ⊢
        exact h'
    · rw [if_neg e, decide_eq_true_eq] at h
      by_cases e2 : b = c
      · subst e2
        rw [if_neg e, decide_eq_true_eq]
        exact h
      · rw [if_neg e2, decide_eq_true_eq] at h'
        rw [if_neg (by omega), decide_eq_true_eq]
        omega
theorem lex_le_trans (x y z : List Int) (h : HT.lexLt y x = false) (h' : HT.lexLt z y = false) : HT.lexLt z x = false := by
  cases e : HT.lexLt z x with
  | false => rfl
  | true =>
    exfalso
    by_cases exy : x = y
    · subst exy
      rw [h'] at e
      cases e
    · have a : HT.lexLt x y = true := by
        cases q : HT.lexLt x y with
        | true => rfl
        | false => exact absurd (lex_tri x y q h) exy
      have b := lex_trans z x y e a
      rw [h'] at b
      cases b
theorem swo_key {α : Type} (k : α → List Int) : SrtO.Swo fun v u => HT.lexLt (k v) (k u) :=
  ⟨fun x y h => lex_asym _ _ h, fun x y z h h' => lex_le_trans _ _ _ h h'⟩

/-- what is sorted, as pairs of an item and its key -/
theorem perm_map_inv {α β : Type} (f : α → β) {out M : List β} (p : out.Perm M) : ∀ L : List α, M = L.map f → ∃ L' : List α, L'.Perm L ∧ out = L'.map f := by
  induction p with
  | nil =>
    intro L e
    exact ⟨L, .refl _, e⟩
  | @cons x l1 l2 _ ih =>
    intro L e
    cases L with
    | nil => cases e
    | cons a L =>
      rw [List.map_cons] at e
      injection e with e1 e2
      obtain ⟨L', q, r⟩ := ih L e2
      exact ⟨a :: L', q.cons a, by rw [List.map_cons, ← r, e1]⟩
  | @swap x y l =>
    intro L e
    match L, e with
    | a :: b :: L, e =>
      rw [List.map_cons, List.map_cons] at e
      injection e with e1 e2
      injection e2 with e2 e3
      exact ⟨b :: a :: L, .swap _ _ _, by rw [List.map_cons, List.map_cons, e1, e2, e3]⟩
    | [a], e =>
      rw [List.map_cons] at e
      injection e with e1 e2
      cases e2
    | [], e => cases e
  | @trans l1 l2 l3 _ _ ih1 ih2 =>
    intro L e
    obtain ⟨L', q, r⟩ := ih2 L e
    obtain ⟨L2, q2, r2⟩ := ih1 L' r
    exact ⟨L2, q2.trans q, r2⟩

section
variable {prog : Program} {w : World} {A : Around} {E : Value → Shared → Prop} {s : Shared}

theorem call_tuple_lt {l b : Addr} {items items2 : Array Value} {ns ms : List Int} {Q : Value → Shared → Prop} (hl : IsTup s.heap l items) (hb : IsTup s.heap b items2) (hi : IntsAre items.toList ns) (hj : IntsAre items2.toList ms)
    (h : Q (.bool (HT.lexLt ns ms)) s) : wpAny (model prog w) A (call (.builtin "tuple.__lt__") [.ref l, .ref b]) Q E s := by
  obtain ⟨⟨cls, dd, data, sl⟩, ho, hc, n, hd⟩ := id hl
  obtain ⟨⟨cls2, dd2, data2, sl2⟩, ho2, hc2, n2, hd2⟩ := id hb
  simp only at hc hd hc2 hd2
  subst hc hd hc2 hd2
  exact call_meets PySem.F.slot_tuple_lt ⟨_, ho, rfl⟩ PySem.F.entry_tuple_lt (PySem.F.args_tuple_lt_2 _ _) (HT.tuple_lt_ints l b items items2 n n2 dd dd2 sl sl2 ns ms hi hj) ⟨ho, ho2, h⟩

theorem oneLt_tup (c : Bool) {l b : Addr} {items items2 : Array Value} {ns ms : List Int} {Q : Bool → Shared → Prop} (hl : IsTup s.heap l items) (hb : IsTup s.heap b items2) (hi : IntsAre items.toList ns) (hj : IntsAre items2.toList ms)
    (hu : A.units < cLine) (h : Q (HT.lexLt ns ms) s) : wpAny (model prog w) A (oneLt' c (.ref l) (.ref b)) Q E s := by
  cases c with
  | true =>
    rw [oneLt'_eq]
    simp only [if_true]
    refine wpAny_bind (wpAny_cRoomFor hu ?_)
    have ht : s.TypeIs (.ref l) "tuple" := by
      obtain ⟨o, ho, hc, _⟩ := hl
      exact ⟨o, ho, hc⟩
    refine wpAny_bind (wpAny_callSpecialIfBound?_slot ht PySem.F.slot_tuple_lt (call_tuple_lt hl hb hi hj ?_))
    exact wpAny_truthy_bool h
  | false =>
    exact PySem.W.kat_one _ _ (HT.lt_tupInts hl hb hi hj hu (show PySem.W.BoolBack Q _ _ from h))

/-- lexicographic compare of two keys by the tuple kind -/
theorem katlex_ints {b : Bool} {xs ys : List Value} {ns ms : List Int} {Q : Bool → Shared → Prop} (i : Nat) (hx : IntsAre xs ns) (hy : IntsAre ys ms)
    {z : Bool} (hz : z = decide (ns.length < ms.length)) (h : Q (HT.lexLt ns ms) s) : PySem.W.KatLex prog w A b z Q (xs.zip ys) i s := by
  induction hx generalizing ys ms i with
  | nil =>
    cases hy with
    | nil =>
      subst hz
      exact PySem.W.kat_nil h
    | cons q u hy =>
      subst hz
      exact PySem.W.kat_nil h
  | @cons p t xs ns hx ih =>
    cases hy with
    | nil =>
      subst hz
      exact PySem.W.kat_nil h
    | @cons q u ys ms hy =>
      have hz' : z = decide (ns.length < ms.length) := by
        rw [hz]
        refine decide_eq_decide.mpr ?_
        rw [List.length_cons, List.length_cons]
        omega
      show PySem.W.KatLex prog w A b z Q ((Value.int p t, Value.int q u) :: xs.zip ys) i s
      refine PySem.W.kat_cons (wpAny_eqBool_int ?_)
      rw [HT.lexLt_cons] at h
      by_cases e : p = q
      · rw [if_pos e] at h
        rw [show (p == q) = true from beq_iff_eq.mpr e]
        exact PySem.W.kat_yes (ih (i + 1) hy hz' h)
      · rw [if_neg e] at h
        rw [show (p == q) = false from beq_eq_false_iff_ne.mpr e]
        exact PySem.W.kat_no (TS.oneLt_ints _ h)

/-- all values are tuples of ints; k reads them -/
def TupsAll (h : Heap) (vs : List Value) : Prop := ∀ v ∈ vs, ∃ ns, TS.TupInts h v ns
theorem TupsAll.keeps {h h' : Heap} {vs : List Value} (x : TupsAll h vs) (k : ∀ b o, h.get? b = some o → o.cls = .type "tuple" → h'.get? b = some o) : TupsAll h' vs := fun v hv =>
  let ⟨ns, t⟩ := x v hv; ⟨ns, t.keeps k⟩
theorem ints_keeps {h h' : Heap} {v : Value} {ns : List Int} (x : TS.TupInts h v ns) (k : ∀ b o, h.get? b = some o → o.cls = .type "tuple" → h'.get? b = some o) : TS.intsOf h' v = TS.intsOf h v := by
  rw [x.ints, (x.keeps k).ints]

theorem cmp_one (c : Bool) {κ : SortKind} (hκ : ∀ x y, keyLt' κ x y = oneLt' c x y) {vs : List Value} {k : Value → List Int} (x : ∀ v ∈ vs, TS.TupInts s.heap v (k v)) (hu : A.units < cLine) :
    SrtO.Cmp prog w A s κ (fun p => p.1 ∈ vs) (SrtO.lt2 fun v u => HT.lexLt (k v) (k u)) := by
  intro p q hp hq
  obtain ⟨a, xs, e1, t1, i1⟩ := x _ hp
  obtain ⟨b, ys, e2, t2, i2⟩ := x _ hq
  rw [hκ]
  show wpAny (model prog w) A (oneLt' c p.1 q.1) (fun r s' => s' = s ∧ r = HT.lexLt (k p.1) (k q.1)) (fun _ _ => False) s
  generalize k p.1 = n1 at i1 ⊢
  generalize k q.1 = n2 at i2 ⊢
  rw [e1, e2]
  exact oneLt_tup c t1 t2 i1 i2 hu ⟨rfl, rfl⟩

theorem cmp_tups {vs : List Value} {k : Value → List Int} {b : Bool} (x : ∀ v ∈ vs, TS.TupInts s.heap v (k v)) :
    SrtO.Cmp prog w A s (tuples' b) (fun p => p.1 ∈ vs) (SrtO.lt2 fun v u => HT.lexLt (k v) (k u)) := by
  intro p q hp hq
  obtain ⟨a, xs, e1, ⟨o, ho, hc, n, hd⟩, i1⟩ := x _ hp
  obtain ⟨a', ys, e2, ⟨o', ho', hc', n', hd'⟩, i2⟩ := x _ hq
  show wpAny (model prog w) A (keyLt' (tuples' b) p.1 q.1) (fun r s' => s' = s ∧ r = HT.lexLt (k p.1) (k q.1)) (fun _ _ => False) s
  generalize k p.1 = n1 at i1 ⊢
  generalize k q.1 = n2 at i2 ⊢
  rw [e1, e2]
  refine PySem.W.kat_lt ho hd ho' hd' (katlex_ints 0 i1 i2 ?_ ⟨rfl, rfl⟩)
  have l1 := i1.length
  have l2 := i2.length
  rw [Array.length_toList] at l1 l2
  rw [l1, l2]

theorem firsts_some {h : Heap} : ∀ {vs : List Value} {k : Value → List Int}, (∀ v ∈ vs, TS.TupInts h v (k v)) → (∀ v ∈ vs, k v ≠ []) → ∃ fs, PySem.W.KatTups h vs fs ∧ fs.length = vs.length ∧ ∀ f ∈ fs, ∃ n t, f = Value.int n t
  | [], _, _, _ => ⟨[], PySem.W.KatTups.nil, rfl, fun f hf => by simp at hf⟩
  | v :: vs, k, x, y => by
    obtain ⟨fs, kt, hl, hi⟩ := firsts_some (fun u hu => x u (List.mem_cons_of_mem _ hu)) fun u hu => y u (List.mem_cons_of_mem _ hu)
    obtain ⟨a, xs, rfl, ⟨o, ho, hc, n, hdt⟩, i⟩ := x v List.mem_cons_self
    have hne := y _ List.mem_cons_self
    obtain ⟨z, zs, e⟩ : ∃ z zs, xs.toList = z :: zs := by
      cases q : xs.toList with
      | nil =>
        rw [q] at i
        have l := i.length
        rw [List.length_nil] at l
        exact absurd (List.eq_nil_of_length_eq_zero l.symm) hne
      | cons z zs => exact ⟨z, zs, rfl⟩
    obtain ⟨m, t, hy⟩ := i.all z (by rw [e]; exact List.mem_cons_self)
    refine ⟨z :: fs, PySem.W.KatTups.cons ho hc hdt ?_ kt, by simp [hl], ?_⟩
    · have q := congrArg (fun l : List Value => l[0]?) e
      simpa using q
    · intro f hf
      rcases List.mem_cons.mp hf with rfl | hf
      · exact ⟨m, t, hy⟩
      · exact hi f hf

/-- the first items, where some tuple is empty -/
def fstO (h : Heap) (v : Value) : Option Value := match v with
  | .ref a => match h.get? a with
    | some o => match o.data with
      | .seq xs _ => xs[0]?
      | _ => none
    | none => none
  | _ => none
theorem firsts_any {vs : List Value} {k : Value → List Int} {Q : List (Option Value) → Shared → Prop} {M : Model} (x : ∀ v ∈ vs, TS.TupInts s.heap v (k v)) (h : Q (vs.map (fstO s.heap)) s) :
    wpAny M A (vs.mapM firstOfTuple') Q E s := by
  induction vs generalizing Q with
  | nil =>
    rw [List.mapM_nil]
    exact wpAny_pure h
  | cons v vs ih =>
    obtain ⟨a, xs, e, ⟨o, ho, hc, n, hd⟩, i⟩ := x v List.mem_cons_self
    rw [List.mapM_cons]
    refine wpAny_bind ?_
    rw [PySem.W.kas_first_eq]
    have ev : fstO s.heap v = xs[0]? := by
      rw [e]
      simp only [fstO, ho, hd]
    subst e
    refine wpAny_bind (PySem.W.Looks.here (show PySem.W.Looks M s.heap (typeOf (.ref a)) o.cls from (PySem.W.Looks.ld ho).andThen .now) ?_)
    rw [hc, if_neg (by first | decide | simp)]
    refine wpAny_bind (listItems_at ho hd (wpAny_pure ?_))
    rw [← ev]
    exact wpAny_bind (ih (Q := fun bs s' => wpAny M A (pure (fstO s.heap (.ref a) :: bs)) Q E s') (fun u hu => x u (List.mem_cons_of_mem _ hu)) (wpAny_pure h))
theorem fstO_some {h : Heap} {v : Value} {ns : List Int} (x : TS.TupInts h v ns) : (fstO h v).isSome = !ns.isEmpty := by
  obtain ⟨a, xs, rfl, ⟨o, ho, hc, n, hd⟩, i⟩ := x
  have l := i.length
  rw [Array.length_toList] at l
  simp only [fstO, ho, hd]
  cases ns with
  | nil =>
    rw [List.length_nil] at l
    have : xs = #[] := Array.eq_empty_of_size_eq_zero l
    subst this
    rfl
  | cons y ys =>
    rw [List.length_cons] at l
    rw [Array.getElem?_eq_getElem (by omega : 0 < xs.size)]
    rfl

theorem tups_sortable {a : Addr} {vs : List Value} {k : Value → List Int} (h2 : 2 ≤ vs.length) (hu : A.units < cLine) (x : ∀ v ∈ vs, TS.TupInts s.heap v (k v)) (ha : ∀ o, s.heap.get? a = some o → o.cls ≠ .type "tuple") :
    SrtO.SortableO prog w A s a vs fun v u => HT.lexLt (k v) (k u) := by
  intro h' keep
  have x' : ∀ v ∈ vs, TS.TupInts h' v (k v) := fun v hm => (x v hm).keeps fun b o e c => keep b o (fun z => by subst z; exact ha o e c) e
  by_cases hall : ∀ v ∈ vs, k v ≠ []
  · obtain ⟨fs, h1, h2', h3⟩ := firsts_some x' hall
    refine ⟨tuples' true, fun Q E hq => ?_, cmp_tups x'⟩
    refine PySem.W.kat_kind (T := .type "int") h1 (by omega) (fun f hm => ?_) (by rfl) ?_
    · obtain ⟨n, t, rfl⟩ := h3 f hm
      exact PySem.W.Looks.now
    · have e : (Value.type "int" != Value.type "tuple") = true := by first | decide +kernel | rfl | decide
      rw [e]
      exact hq
  · have hsome : (((vs.map (fstO h')).toArray.all fun o => o.isSome) = false) := by
      rw [Bool.eq_false_iff]
      intro q
      apply hall
      intro v hv e
      rw [List.all_toArray, List.all_eq_true] at q
      have q' := q _ (List.mem_map.mpr ⟨v, hv, rfl⟩)
      rw [fstO_some (x' v hv), e] at q'
      cases q'
    obtain ⟨v1, v2, rest, rfl⟩ : ∃ v1 v2 rest, vs = v1 :: v2 :: rest := by
      match vs, h2 with
      | [], h2 => simp at h2
      | [_], h2 => simp at h2
      | v1 :: v2 :: rest, _ => exact ⟨v1, v2, rest, rfl⟩
    by_cases hf : k v1 = []
    · refine ⟨oneType', fun Q E hq => ?_, cmp_one true keyLt'_oneType x' hu⟩
      rw [keyKind'_eq, List.mapM_toArray, map_eq_pure_bind]
      refine wpAny_bind (wpAny_bind (firsts_any (s := { s with heap := h' }) x' (wpAny_pure ?_)))
      rw [if_neg (by rw [hsome]; exact Bool.false_ne_true)]
      have h0 : (((List.map (fstO h') (v1 :: v2 :: rest)).toArray[0]?.bind id).isSome) = false := by
        have e := fstO_some (x' v1 List.mem_cons_self)
        rw [hf] at e
        simpa using e
      rw [if_neg (by rw [h0]; exact Bool.false_ne_true)]
      rw [oneTypeOnly'_eq, List.mapM_toArray, map_eq_pure_bind]
      refine wpAny_bind (wpAny_bind (wpAny_bind (PySem.W.kas_mapM (r := Value.type "tuple") _ (fun v hv Q' hq => ?_) (wpAny_pure ?_))))
      · obtain ⟨a, xs, e, ⟨o, ho, hc, n, hd⟩, i⟩ := x' v hv
        subst e
        refine PySem.W.Looks.here (show PySem.W.Looks _ h' (typeOf (.ref a)) (Value.type "tuple") from ?_) hq
        rw [← hc]
        exact (PySem.W.Looks.ld ho).andThen .now
      · have hall2 : ((List.map (fun _ => Value.type "tuple") (v1 :: v2 :: rest)).toArray.all fun x => x == Value.type "tuple") = true := by
          simp only [List.all_toArray, List.all_map, List.all_eq_true]
          intro _ _
          rfl
        have h0 : (List.map (fun _ => Value.type "tuple") (v1 :: v2 :: rest)).toArray[0]? = some (Value.type "tuple") := by simp
        rw [h0]
        simp only [hall2, if_true]
        exact wpAny_pure (wpAny_pure hq)
    · refine ⟨general', fun Q E hq => ?_, cmp_one false (fun _ _ => rfl) x' hu⟩
      rw [keyKind'_eq, List.mapM_toArray, map_eq_pure_bind]
      refine wpAny_bind (wpAny_bind (firsts_any (s := { s with heap := h' }) x' (wpAny_pure ?_)))
      rw [if_neg (by rw [hsome]; exact Bool.false_ne_true)]
      have h0 : (((List.map (fstO h') (v1 :: v2 :: rest)).toArray[0]?.bind id).isSome) = true := by
        have e := fstO_some (x' v1 List.mem_cons_self)
        cases hk : k v1 with
        | nil => exact absurd hk hf
        | cons y ys =>
          rw [hk] at e
          simpa using e
      rw [if_pos h0]
      exact wpAny_pure hq
end
end Xh

/-! The rules: sorted of a list, a set, a dict of tuples of ints. -/
namespace Xh
open PySem PySem.Spec PySem.Calls PyProof.Rows L2

abbrev Rws := List (Addr × List Int)
def RwsAt (K : PySem.W.Frag) (H : Hp) (L : Rws) : Prop := ∀ p ∈ L, SqT K H p.1 (p.2.map V.int)
abbrev Asc (L : Rws) : Prop := L.Pairwise (fun q r => HT.lexLt r.2 q.2 = false)

section
variable {X : Cx}
/-- what stands behind a sort of rows -/
theorem rows_out {pins : List (Addr × Obj)} {σ : L2.St} {H : Hp} {s : Shared} {L : Rws} {vs out : List Value} (I : Inv X pins σ H s) (hL : RwsAt X.K H L) (hv : vs = L.map fun p => Value.ref p.1)
    (hs : SrtO.Srtd (fun v u => HT.lexLt (TS.intsOf s.heap v) (TS.intsOf s.heap u)) out) (hb : out.Perm vs) : ∃ L' : Rws, L'.Perm L ∧ Asc L' ∧ out = L'.map fun p => Value.ref p.1 := by
  obtain ⟨L', p, e⟩ := perm_map_inv (fun p : Addr × List Int => Value.ref p.1) hb L hv
  refine ⟨L', p, ?_, e⟩
  rw [e] at hs
  have hs := List.pairwise_map.mp hs
  refine List.Pairwise.imp_of_mem (fun {q r} hq hr h => ?_) hs
  have f : ∀ q ∈ L', TS.intsOf s.heap (Value.ref q.1) = q.2 := fun q hq => by
    have t := tupInts_of (P := X.prog) (w := X.w) (I.isT (hL q (p.mem_iff.mp hq)))
    exact t.ints
  have h : HT.lexLt (TS.intsOf s.heap (Value.ref r.1)) (TS.intsOf s.heap (Value.ref q.1)) = false := h
  rw [f q hq, f r hr] at h
  exact h
theorem rows_tups {pins : List (Addr × Obj)} {σ : L2.St} {H : Hp} {s : Shared} {L : Rws} {vs : List Value} (I : Inv X pins σ H s) (hL : RwsAt X.K H L) (hv : ∀ v ∈ vs, v ∈ L.map fun p => Value.ref p.1) :
    ∀ v ∈ vs, TS.TupInts s.heap v (TS.intsOf s.heap v) := fun v m => by
  obtain ⟨q, hq, e⟩ := List.mem_map.mp (hv v m)
  have t := tupInts_of (P := X.prog) (w := X.w) (I.isT (hL q hq))
  rw [← e, t.ints]
  exact t

/-- sorted(xs), xs a list of tuples of ints -/
def rSortL (K : PySem.W.Frag) : List V → Hp → VK → Prop := fun vs H Q => ∃ (a : Addr) (L : Rws), vs = [V.ref a] ∧ SqL K H a (L.map fun p => V.ref p.1) ∧ RwsAt K H L ∧
  ∀ (L' : Rws) (p : Addr), L'.Perm L → Asc L' → H p = none → Q (.ref p) (upd H p (.lst (L'.map fun q => V.ref q.1)))
theorem cr_sortL (hu : X.A.units + 64 < cLine) : CallR X (.builtin "sorted") (rSortL X.K) := by
  intro pins s σ H vs us Q I r h
  obtain ⟨a, L, rfl, hs, hL, q⟩ := h
  obtain ⟨its, rv, hl, hz⟩ := I.list hs
  rw [Vals.ref1 r]
  have ei : its = L.map fun p => Value.ref p.1 := refs_of_vals rv
  have hz' : its.length ≤ sizeLine := by rw [← rv.length]; exact hz
  refine SrtO.sorted_ord (ltv := fun v u => HT.lexLt (TS.intsOf s.heap v) (TS.intsOf s.heap u)) (swo_key _) hl.isList hz' (fun h2 h₁ b hb kk => ?_) fun out hs' hb => ?_
  · refine tups_sortable (s := { s with heap := h₁ }) h2 (by show X.A.units + 1 + 1 < cLine; omega) (fun v hm => ?_) fun o e => ?_
    · have t := rows_tups I hL (vs := its) (fun v m => by rw [← ei]; exact m) v hm
      exact t.keeps fun b o e _ => (kk b o e).2
    · have e' : some o = some (seqObj "list" its.toArray 0) := e.symm.trans hb
      cases e'
      intro c
      exact absurd (Value.type.inj c) (by decide)
  · obtain ⟨L', pm, pw, eo⟩ := rows_out I hL ei hs' hb.perm
    have hp : s.heap.objs.size ≤ s.heap.objs.size + 1 := Nat.le_succ _
    obtain ⟨n, hn⟩ := sortedAll_at s.heap its out.toArray
    refine ⟨.ref (s.heap.objs.size + 1), upd H (s.heap.objs.size + 1) (.lst (L'.map fun q => V.ref q.1)), I.laid (t' := s.toks) (fun b o e => sortedAll_old e) hp ⟨?_, out, n, ?_, hn⟩, rfl, q L' _ pm pw (I.hok.fresh hp)⟩
    · rw [List.length_map, pm.length_eq]
      have := hz
      rw [List.length_map] at this
      exact this
    · rw [eo]
      exact vals_of_refs L'

/-- list.sort of a new list of rows -/
theorem sort_new {pins : List (Addr × Obj)} {σ : L2.St} {H : Hp} {s : Shared} {L : Rws} {vs : List Value} {A : Around} {E : Value → Shared → Prop} (hu : A.units + 8 < cLine) (I : Inv X pins σ H s) (hL : RwsAt X.K H L)
    (hv : vs = L.map fun p => Value.ref p.1) (hz : L.length ≤ sizeLine) {a : Addr} (ha : a = s.heap.objs.size) {Q : Value → Shared → Prop}
    (q : ∀ (L' : Rws) (h2 : Heap) (n : Nat), L'.Perm L → Asc L' → (∀ b o, s.heap.get? b = some o → h2.get? b = some o) → h2.get? a = some (seqObj "list" (L'.map fun q => Value.ref q.1).toArray n) → Q .none { s with heap := h2 }) :
    wpAny (model X.prog X.w) A (call (.builtin "list.sort") [.ref a]) Q E { s with heap := s.heap.push (seqObj "list" vs.toArray 0) } := by
  subst ha
  have hoL : (s.heap.push (seqObj "list" vs.toArray 0)).get? s.heap.objs.size = some (seqObj "list" vs.toArray 0) := Heap.get?_push_size _ rfl
  have hz' : vs.length ≤ sizeLine := by rw [hv, List.length_map]; exact hz
  refine wpAny_call_entry slot_list_sort ⟨_, hoL, rfl⟩ entry_list_sort ?_ (args_list_sort _)
  refine SrtO.list_sort_ord (s := { s with heap := s.heap.push (seqObj "list" vs.toArray 0) }) (ltv := fun v u => HT.lexLt (TS.intsOf s.heap v) (TS.intsOf s.heap u)) (swo_key _) hoL hz' (fun h2 => ?_) fun out hs' hb => ⟨_, rfl, ?_⟩
  · refine tups_sortable (s := { s with heap := s.heap.push (seqObj "list" vs.toArray 0) }) h2 (by show A.units + 1 < cLine; omega) (fun v hm => ?_) fun o e => ?_
    · have t := rows_tups I hL (vs := vs) (fun v m => by rw [← hv]; exact m) v hm
      exact t.keeps fun b o e _ => Heap.get?_push_of_some _ e
    · have e' : some o = some (seqObj "list" vs.toArray 0) := e.symm.trans hoL
      cases e'
      intro c
      exact absurd (Value.type.inj c) (by decide)
  · obtain ⟨L', pm, pw, eo⟩ := rows_out I hL hv hs' hb.perm
    subst eo
    obtain ⟨n, hn⟩ := sortedHeap_at (vs := vs) (out := (L'.map fun p => Value.ref p.1).toArray) hoL
    refine q L' _ n pm pw (fun b o e => ?_) hn
    have hlt := Heap.lt_size e
    rw [sortedHeap_old (Nat.ne_of_lt hlt) (by rw [size_push']; exact Nat.lt_succ_of_lt hlt)]
    exact Heap.get?_push_of_some _ e

theorem args_sorted_ok : True := trivial

/-- sorted(set), a set of tuples of ints -/
def rSortS (K : PySem.W.Frag) (P : Program) (w : World) : List V → Hp → VK → Prop := fun vs H Q => ∃ (a : Addr) (L : Rws), vs = [V.ref a] ∧ H a = some (SetTO P w a L) ∧ RwsAt K H L ∧
  ∀ (L' : Rws) (p : Addr), L'.Perm L → (L'.map (·.2)).Nodup → Asc L' → H p = none → Q (.ref p) (upd H p (.lst (L'.map fun q => V.ref q.1)))
theorem cr_sortS (hc : X.calm = true) (hu : X.A.units + 64 < cLine) : CallR X (.builtin "sorted") (rSortS X.K X.prog X.w) := by
  intro pins s σ H vs us Q I r h
  obtain ⟨a, L, rfl, ha, hL, q⟩ := h
  have R0 : SetT0 X.prog X.w s.heap a L := (I.hok a _ ha).1
  obtain ⟨es, ep, t, R⟩ := R0.full fun p hp => I.isT (hL p hp)
  rw [Vals.ref1 r]
  obtain ⟨o, ho, hex, hd⟩ := R.ob
  have hsz := R.size
  have hfew := R.few
  refine Calls.call_function_entry kind_sorted plain_sorted entry_sorted (args_sorted1 _) ?_
  unfold Builtin.«sorted»
  refine wpAny_bind (m := checkCount "sorted" 1 1 _) (wpAny_pure ?_)
  refine wpAny_bind (collect_set (A := X.A.in1) (I.ok.hd hc) ⟨o, ho, hex.1, hd⟩ R.fits (by unfold scanBound; omega) R.tab.ris R.led fun s1 vs k1 hz1 g1 o1 pm => ?_)
  have hes : es.toList.map (·.2) = L.map fun q => Value.ref q.1 := by
    rw [R.rows]
    unfold rowsOf
    rw [List.map_map] <;> rfl
  rw [hes] at pm
  obtain ⟨L1, p1, e1⟩ := perm_map_inv (fun p : Addr × List Int => Value.ref p.1) pm L rfl
  have es1 : s1 = { s with heap := s1.heap, gens := s1.gens, drawn := s1.drawn, toks := s1.toks } := by
    cases s1
    cases s
    cases o1
    rfl
  have I1 : Inv X pins σ H s1 := by
    rw [es1]
    exact I.call (ch := []) (Un.kept k1) (I.hok.kept k1) (by rw [g1]; exact I.bare) (fun _ z => nomatch z)
  have hl1 : L1.length < 64 := by rw [p1.length_eq]; exact hfew
  refine wpAny_bind (wpAny_newList ?_ (by rw [e1, List.length_map, sizeLine_eq]; omega))
  refine wpAny_bind (wpAny_holding (sort_new (A := X.A.in1) (by show X.A.units + 1 + 8 < cLine; omega) I1 (fun p hp => hL p (p1.mem_iff.mp hp)) e1 (by rw [sizeLine_eq]; omega) rfl fun L' h2 n pm2 pw k2 hn => ?_))
  have hn0 : H s1.heap.objs.size = none := I1.hok.fresh (Nat.le_refl _)
  refine wpAny_pure ⟨_, rfl, .ref s1.heap.objs.size, upd H s1.heap.objs.size (.lst (L'.map fun q => V.ref q.1)), I1.laid (t' := s1.toks) k2 (Nat.le_refl _) ⟨?_, _, n, vals_of_refs L', hn⟩, rfl, q L' _ (pm2.trans p1) (((pm2.trans p1).map (·.2)).nodup_iff.mpr R.nd) pw hn0⟩
  rw [List.length_map, pm2.length_eq, sizeLine_eq]
  omega

/-- the rows of a dict's keys: tuples of ints -/
def KeyRows (H : Hp) (kvs : List (List Key × V)) (L : Rws) : Prop := Paired (fun (p : List Key × V) (q : Addr × List Int) => p.1 = q.2.map Sum.inl ∧ H q.1 = some (.tup (q.2.map V.int))) kvs L
theorem kV_ints (ns : List Int) : (ns.map (Sum.inl : Int → Key)).map kV = ns.map V.int := by
  rw [List.map_map]
  rfl
theorem keyRows_of {H : Hp} : ∀ {kvs : List (List Key × V)} {xs : List (List Key × Addr × Value)} {kk : List (List Int)}, KT H kvs xs → kvs.map (·.1) = kk.map (fun k => k.map Sum.inl) →
    ∃ L : Rws, KeyRows H kvs L ∧ L.map (·.2) = kk ∧ (xs.map fun x => Value.ref x.2.1) = L.map fun q => Value.ref q.1
  | [], _, [], .nil, _ => ⟨[], .nil, rfl, rfl⟩
  | [], _, _ :: _, .nil, e => by cases e
  | _ :: _, _, [], _, e => by cases e
  | p :: kvs, _, k :: kk, .cons (b := x) h t, e => by
    rw [List.map_cons, List.map_cons] at e
    injection e with e1 e2
    obtain ⟨L, r1, r2, r3⟩ := keyRows_of t e2
    refine ⟨(x.2.1, k) :: L, .cons ⟨e1, ?_⟩ r1, by rw [List.map_cons, r2], by rw [List.map_cons, List.map_cons, r3]⟩
    have q := h.2.1
    rw [e1, kV_ints] at q
    exact q
theorem keyRows_at {K : PySem.W.Frag} {H : Hp} {kvs : List (List Key × V)} {L : Rws} (r : KeyRows H kvs L) : RwsAt K H L := by
  unfold KeyRows at r
  induction r with
  | nil => exact fun p hp => absurd hp (by simp)
  | cons h t ih =>
    intro p hp
    rcases List.mem_cons.mp hp with e | hp
    · subst e
      exact .inl (.inl h.2)
    · exact ih p hp
theorem keyRows_in {H : Hp} {kvs : List (List Key × V)} {L : Rws} (r : KeyRows H kvs L) : ∀ p ∈ L, H p.1 = some (.tup (p.2.map V.int)) := by
  unfold KeyRows at r
  induction r with
  | nil => exact fun p hp => absurd hp (by simp)
  | cons h t ih =>
    intro p hp
    rcases List.mem_cons.mp hp with e | hp
    · subst e
      exact h.2
    · exact ih p hp
/-- sorted(d), d a dict whose keys are tuples of ints -/
def rSortDT (K : PySem.W.Frag) : List V → Hp → VK → Prop := fun vs H Q => ∃ (a : Addr) (kvs : List (List Key × V)) (kk : List (List Int)), vs = [V.ref a] ∧ H a = some (.dT kvs) ∧ kvs.map (·.1) = kk.map (fun k => k.map Sum.inl) ∧
  ∀ (L' : Rws) (p : Addr), (L'.map (·.2)).Perm kk → (∀ q ∈ L', H q.1 = some (.tup (q.2.map V.int))) → Asc L' → H p = none → Q (.ref p) (upd H p (.lst (L'.map fun q => V.ref q.1)))
theorem cr_sortDT (hc : X.calm = true) (hu : X.A.units + 64 < cLine) : CallR X (.builtin "sorted") (rSortDT X.K) := by
  intro pins s σ H vs us Q I r h
  obtain ⟨a, kvs, kk, rfl, ha, hkk, q⟩ := h
  rw [Vals.ref1 r]
  obtain ⟨z, hs, ks, pr, o, es, ep, ho, hx, hdt, he, hn⟩ := (show ObjOk X.prog X.w H s.heap a (.dT kvs) from I.hok a _ ha)
  have l1 : es.size = ks.length := size_of_entries he
  have l2 : kvs.length = ks.length := Paired.length pr
  obtain ⟨L, rL, eL, eR⟩ := keyRows_of pr hkk
  have hLz : L.length = kvs.length := (Paired.length rL).symm
  refine Calls.call_function_entry kind_sorted plain_sorted entry_sorted (args_sorted1 _) ?_
  unfold Builtin.«sorted»
  refine wpAny_bind (m := checkCount "sorted" 1 1 _) (wpAny_pure ?_)
  refine wpAny_bind (PySem.W.kdu_collect (A := X.A.in1) (kdl_raw hs hx hdt) (I.ok.hd hc) ho (by omega) fun h' tk acc hk it => ?_)
  have ea : acc.toList = L.map fun q => Value.ref q.1 := by
    rw [← eR]
    have hl : acc.toList.length = ks.length := by rw [Array.length_toList, it.1]; exact l1
    apply List.ext_getElem?
    intro j
    rw [List.getElem?_map]
    cases hj : acc.toList[j]? with
    | none =>
      have h1 := List.getElem?_eq_none_iff.mp hj
      rw [List.getElem?_eq_none (by omega)]
      rfl
    | some v =>
      obtain ⟨en, hen, hv⟩ := it.2 j v (by rw [← Array.getElem?_toList]; exact hj)
      have qe := entry_at he j
      rw [hen] at qe
      cases hb : ks[j]? with
      | none =>
        rw [hb] at qe
        exact nomatch (show some en = none from qe)
      | some b =>
        rw [hb] at qe
        have e2 : en = entryOfKey (tupleKind (mixKind X.prog X.w)) b := Option.some.inj qe
        rw [hv, e2]
        rfl
  have I1 : Inv X pins σ H { s with heap := h', toks := tk } := I.kept hk
  refine wpAny_bind (wpAny_newList ?_ (by rw [ea, List.length_map]; omega))
  refine wpAny_bind (wpAny_holding (sort_new (A := X.A.in1) (s := { s with heap := h', toks := tk }) (by show X.A.units + 1 + 8 < cLine; omega) I1 (keyRows_at rL) ea (by omega) rfl fun L' h2 n pm2 pw k2 hn => ?_))
  have hn0 : H h'.objs.size = none := I1.hok.fresh (Nat.le_refl _)
  refine wpAny_pure ⟨_, rfl, .ref h'.objs.size, upd H h'.objs.size (.lst (L'.map fun q => V.ref q.1)), I1.laid (t' := tk) k2 (Nat.le_refl _) ⟨?_, _, n, vals_of_refs L', hn⟩, rfl, q L' _ ?_ (fun p hp => keyRows_in rL p (pm2.mem_iff.mp hp)) pw hn0⟩
  · rw [List.length_map, pm2.length_eq]
    omega
  · rw [← eL]
    exact pm2.map _
end
end Xh

/-! Data in tuples: in, not in, index; dict of a list of pairs whose keys are tuples. -/
namespace Xh
open PySem PySem.Spec PyProof.Rows L2
section
variable {X : Cx}
def rInT (K : PySem.W.Frag) : R2 := fun x y H Q => ∃ d ds, Dp K H x d ∧ Dp K H y (.tuple ds) ∧ SeqAt.shaped d = true ∧ SeqAt.shaped (.tuple ds) = true ∧ Q (.bl (ds.any fun z => PyData.eqv z d)) H
def rNotInT (K : PySem.W.Frag) : R2 := fun x y H Q => ∃ d ds, Dp K H x d ∧ Dp K H y (.tuple ds) ∧ SeqAt.shaped d = true ∧ SeqAt.shaped (.tuple ds) = true ∧ Q (.bl (!ds.any fun z => PyData.eqv z d)) H
theorem op_inT (hu : X.A.units + 65 < cLine) : OpR X (compareOp .In) (rInT X.K) := by
  intro pins s σ H x y v u Q I rx ry h
  obtain ⟨d, ds, hd, he, sd, se, q⟩ := h
  obtain ⟨as, r1⟩ := Dp.reads I d x v hd rx
  obtain ⟨bs, r2⟩ := Dp.reads I (.tuple ds) y u he ry
  exact SeqAt.in_tuple_reads r2 r1 (SeqAt.canLay_of_shaped se) (SeqAt.canLay_of_shaped sd) (room_in_shaped sd hu) ⟨.bl _, H, I, rfl, q⟩
theorem op_notInT (hu : X.A.units + 65 < cLine) : OpR X (compareOp .NotIn) (rNotInT X.K) := by
  intro pins s σ H x y v u Q I rx ry h
  obtain ⟨d, ds, hd, he, sd, se, q⟩ := h
  obtain ⟨as, r1⟩ := Dp.reads I d x v hd rx
  obtain ⟨bs, r2⟩ := Dp.reads I (.tuple ds) y u he ry
  exact SeqAt.notIn_tuple_reads r2 r1 (SeqAt.canLay_of_shaped se) (SeqAt.canLay_of_shaped sd) (room_in_shaped sd hu) ⟨.bl _, H, I, rfl, q⟩
/-- t.index(x): the first place of an equal one -/
def rIndexT (K : PySem.W.Frag) : V → List V → Hp → VK → Prop := fun x xs H Q => ∃ (a : Addr) (y : V) (d : PyData) (ds : List PyData) (j : Nat) (z : PyData), x = V.ref a ∧ xs = [y] ∧ Dp K H (V.ref a) (.tuple ds) ∧ Dp K H y d ∧
  SeqAt.shaped (.tuple ds) = true ∧ SeqAt.shaped d = true ∧ ds[j]? = some z ∧ PyData.eqv z d = true ∧ (∀ (m : Nat) (z' : PyData), m < j → ds[m]? = some z' → PyData.eqv z' d = false) ∧ Q (.int (j : Nat)) H
theorem mt_indexT (hu : X.A.units + 65 < cLine) : MtR X "tuple.index" (rIndexT X.K) := by
  intro pins s σ H x xs v us Q I rx rxs h
  obtain ⟨a, y, d, ds, j, z, rfl, rfl, hl, hy, sl, sd, hz, hzj, hno, q⟩ := h
  cases rx
  cases rxs with
  | cons ry rt =>
    rename_i uy ut
    cases rt
    obtain ⟨bs, r1⟩ := Dp.reads I d y uy hy ry
    have hxs : PyData.canLayAll0 ds = true := SeqAt.canLay_of_shaped sl
    have hroom : X.A.units + 1 + min (PyData.depthAll ds) d.depth < cLine := room_in_shaped sd hu
    cases hl with
    | tup hs ha =>
      obtain ⟨its, rv, ⟨⟨cls, dd, data, sls⟩, ho, hc, n, hdt⟩, hlen⟩ := I.tuple hs
      simp only at hc hdt
      subst hc hdt
      obtain ⟨as, h4⟩ := Dp.readsAll I ds _ its ha rv
      have hn : its.length = ds.length := SeqAt.ReadsAll.length ds its as h4
      have hmap : its.map (SeqAt.readOf s.heap) = ds := SeqAt.readsAll_map ds its as hxs h4
      have hvl := rv.length
      have hsl := sizeLine_eq
      obtain ⟨hjd, _⟩ := List.getElem?_eq_some_iff.mp hz
      have hjl : j < its.length := by omega
      have hj : j < its.toArray.size := by simpa using hjl
      have at_ : ∀ (m : Nat) (hm : m < its.toArray.size) (z' : PyData), ds[m]? = some z' → SeqAt.readOf s.heap its.toArray[m] = z' := by
        intro m hm z' hz'
        have hml : m < its.length := by simpa using hm
        rw [← hmap, List.getElem?_map, List.getElem?_eq_getElem hml] at hz'
        have e1 : SeqAt.readOf s.heap its[m] = z' := Option.some.inj (show some (SeqAt.readOf s.heap its[m]) = some z' from hz')
        simpa using e1
      refine call_meets PySem.F.slot_tuple_index ⟨_, ho, rfl⟩ PySem.F.entry_tuple_index (PySem.F.args_tuple_index_2 _ _)
        (TI.tuple_indexAt a its.toArray n dd sls uy (fun u => PyData.eqv (SeqAt.readOf s.heap u) d) j hj ?_ ?_) ⟨ho, SeqAt.items_eqAt (vs := its.toArray) (show ReadsAll s.heap its.toArray.toList ds as from h4) r1 hxs (SeqAt.canLay_of_shaped sd) hroom, ?_⟩
      · show PyData.eqv (SeqAt.readOf s.heap its.toArray[j]) d = true
        rw [at_ j hj z hz]
        exact hzj
      · intro m hm hmj
        have hmd : m < ds.length := by
          have : m < its.length := by simpa using hm
          omega
        have hz' : ds[m]? = some ds[m] := List.getElem?_eq_getElem hmd
        show PyData.eqv (SeqAt.readOf s.heap its.toArray[m]) d = false
        rw [at_ m hm _ hz']
        exact hno m _ hmj hz'
      · exact ⟨.int (j : Nat), H, I.tok _, ⟨_, rfl⟩, q⟩

/-! ### dict of pairs -/
/-- address of the pair, key, the key's tuple, value -/
abbrev Prs := List (Addr × List Key × Addr × V)
def mergeT (kvs : List (List Key × V)) : List (List Key × V) := kvs.foldl (fun acc kv => putK acc kv.1 kv.2) []
theorem KT.all {H : Hp} : ∀ {ps : List (List Key × V)} {xs : List (List Key × Addr × Value)} {acc : List (List Key × V)} {ys : List (List Key × Addr × Value)}, KT H ps xs → KT H acc ys →
    KT H (ps.foldl (fun acc kv => putK acc kv.1 kv.2) acc) (storedAllH ys xs)
  | [], _, _, _, .nil, r => r
  | p :: ps, _, acc, ys, .cons (b := x) h t, r => by
    show KT H (ps.foldl (fun acc kv => putK acc kv.1 kv.2) (putK acc p.1 p.2)) (storedAllH (storedH ys x.1 x.2.1 x.2.2) _)
    refine KT.all t ?_
    have q := r.put x.1 (b := x.2.1) (y := p.2) (u := x.2.2) (by rw [← h.1]; exact h.2.1) h.2.2
    rw [h.1]
    exact q
theorem mergeT_len : ∀ (ps acc : List (List Key × V)), (ps.foldl (fun acc kv => putK acc kv.1 kv.2) acc).length ≤ acc.length + ps.length
  | [], acc => by show acc.length ≤ acc.length + 0; omega
  | p :: r, acc => by
    have h1 := mergeT_len r (putK acc p.1 p.2)
    have h2 := length_putK acc p.1 p.2
    show (r.foldl (fun acc kv => putK acc kv.1 kv.2) (putK acc p.1 p.2)).length ≤ _
    rw [List.length_cons]; omega
theorem prs_of {pins : List (Addr × Obj)} {σ : L2.St} {H : Hp} {s : Shared} (I : Inv X pins σ H s) : ∀ {ps : Prs}, (∀ p ∈ ps, SqT X.K H p.1 [.ref p.2.2.1, p.2.2.2] ∧ H p.2.2.1 = some (.tup (p.2.1.map kV))) →
    ∃ xs : List (List Key × Addr × Value), KT H (ps.map fun p => (p.2.1, p.2.2.2)) xs ∧ xs.length = ps.length ∧ ∀ (j : Nat) (x : List Key × Addr × Value), xs[j]? = some x → ∃ p, ps[j]? = some p ∧ IsTup s.heap p.1 #[.ref x.2.1, x.2.2]
  | [], _ => ⟨[], .nil, rfl, fun j x e => by simp at e⟩
  | p :: ps, h => by
    obtain ⟨xs, r, hl, hx⟩ := prs_of I fun q hq => h q (List.mem_cons_of_mem _ hq)
    obtain ⟨h1, h2⟩ := h p List.mem_cons_self
    obtain ⟨its, rv, ht, _⟩ := I.tuple h1
    obtain ⟨u, y, ei, ru, ry⟩ := vals2 rv
    subst ei
    cases ru
    refine ⟨(p.2.1, p.2.2.1, y) :: xs, .cons ⟨rfl, h2, ry⟩ r, by rw [List.length_cons, List.length_cons, hl], fun j x e => ?_⟩
    cases j with
    | zero =>
      have e' : (p.2.1, p.2.2.1, y) = x := Option.some.inj e
      subst e'
      exact ⟨p, rfl, ht⟩
    | succ j =>
      obtain ⟨q, e1, e2⟩ := hx j x (by simpa using e)
      exact ⟨q, by simpa using e1, e2⟩
/-- dict(xs), xs a list of pairs (key, value), keys tuples of ints and texts -/
def rDictT (K : PySem.W.Frag) : List V → Hp → VK → Prop := fun xs H Q => ∃ (a : Addr) (ps : Prs), xs = [.ref a] ∧ SqL K H a (ps.map fun p => V.ref p.1) ∧ (∀ p ∈ ps, SqT K H p.1 [.ref p.2.2.1, p.2.2.2] ∧ H p.2.2.1 = some (.tup (p.2.1.map kV))) ∧
  ∀ d, H d = none → Q (.ref d) (upd H d (.dT (mergeT (ps.map fun p => (p.2.1, p.2.2.2)))))
theorem call_dictT (hcalm : X.calm = true) (hu : X.A.units + 64 < cLine) : CallR X (.type "dict") (rDictT X.K) := by
  intro pins s σ H xs us Q I r q
  obtain ⟨a, ps, ex, hq, hp, q⟩ := q
  subst ex
  rw [Vals.ref1 r]
  obtain ⟨its, rv, pl, hz⟩ := I.list hq
  have ei : its = (ps.map (·.1)).map Value.ref := by
    have rv' : Vals ((ps.map (·.1)).map V.ref) its := by rw [List.map_map]; exact rv
    exact refs_at rv'
  subst ei
  rw [List.length_map] at hz
  obtain ⟨xs, rel, hl, hx⟩ := prs_of I hp
  obtain ⟨o, n, ho, hc, hd, hdat⟩ := pl
  have hkeys : ∀ h' : Heap, (∀ b o, s.heap.get? b = some o → h'.get? b = some o) → ∀ x ∈ xs, (tupleKind (mixKind X.prog X.w)).is h' x.1 x.2.1 := by
    intro h' hk
    have ok' : HOk X.prog X.w H h' := I.hok.kept hk
    have all : ∀ {l : List (List Key × V)} {m : List (List Key × Addr × Value)}, KT H l m → ∀ x ∈ m, (tupleKind (mixKind X.prog X.w)).is h' x.1 x.2.1 := by
      intro l m q
      induction q with
      | nil => intro x hx; exact nomatch hx
      | @cons p q ps qs hq t ih =>
        intro x hx
        rcases List.mem_cons.mp hx with e | hx
        · subst e
          exact key_of ok' (by rw [← hq.1]; exact hq.2.1)
        · exact ih x hx
    exact all rel
  have items : PairItems s.heap ((ps.map (·.1)).map Value.ref).toArray (fun j => (ps[j]?.map (·.1)).getD 0) (xs.map fun x => (Value.ref x.2.1, x.2.2)) := by
    refine ⟨by simp [hl], fun j k v e => ?_⟩
    rw [List.getElem?_map] at e
    cases hxj : xs[j]? with
    | none => rw [hxj] at e; cases e
    | some x =>
      rw [hxj] at e
      have e' : (Value.ref x.2.1, x.2.2) = (k, v) := Option.some.inj e
      obtain ⟨p, hpj, ht⟩ := hx j x hxj
      injection e' with e1 e2
      subst e1
      subst e2
      have hT : (fun j => ((ps[j]?).map (·.1)).getD 0) j = p.1 := by
        show ((ps[j]?).map (·.1)).getD 0 = p.1
        rw [hpj]
        rfl
      rw [hT]
      refine ⟨?_, .inl ht⟩
      have hg : ((ps.map (·.1)).map Value.ref)[j]? = some (Value.ref p.1) := by
        rw [List.getElem?_map, List.getElem?_map, hpj]
        rfl
      simpa using hg
  have st : KeysStay (tupleKind (mixKind X.prog X.w)) s.heap s.heap.objs.size [] xs := fun h' hk =>
    hkeys h' fun b o e => hk b o (Nat.ne_of_lt (Heap.lt_size e)) (by simp) e
  refine PySem.call_dict_pairsH (knd := tupleKind (mixKind X.prog X.w)) (ps := xs) (PairArg.list a _ _ (xs.map fun x => (Value.ref x.2.1, x.2.2))) (I.ok.hd hcalm) (by show X.A.units + 1 + 1 < cLine; omega) ⟨⟨o, n, ho, hc, hd, hdat⟩, items⟩ ⟨by rw [List.length_map], fun i key v e => ?_⟩ st
    (by rw [List.length_map, hl]; exact (by simpa using hz)) fun h' tk hd' hk => ?_
  · have e : (xs.map fun x => (Value.ref x.2.1, x.2.2))[i]? = some (key, v) := e
    rw [List.getElem?_map] at e
    cases hxj : xs[i]? with
    | none => rw [hxj] at e; cases e
    | some x =>
      rw [hxj] at e
      have e' : (Value.ref x.2.1, x.2.2) = (key, v) := Option.some.inj e
      injection e' with e1 e2
      exact ⟨x.1, x.2.1, by rw [← e2], e1.symm⟩
  · have hm : (s.heap.objs.size == sysModules) = false := beq_eq_false_iff_ne.mpr (Nat.ne_of_gt I.big)
    have hlen : (mergeT (ps.map fun p => (p.2.1, p.2.2.2))).length ≤ sizeLine := by
      refine Nat.le_trans (mergeT_len _ []) ?_
      rw [List.length_nil, Nat.zero_add, List.length_map]
      simpa using hz
    have hn : H s.heap.objs.size = none := I.hok.fresh (Nat.le_refl _)
    have kt : KT H (mergeT (ps.map fun p => (p.2.1, p.2.2.2))) (storedAllH [] xs) := KT.all rel .nil
    refine ⟨.ref s.heap.objs.size, upd H s.heap.objs.size (.dT (mergeT (ps.map fun p => (p.2.1, p.2.2.2)))), I.laid (t' := tk) (fun b o e => hk b o (by simp) e) (Nat.le_refl _) ?_, rfl, q _ hn⟩
    obtain ⟨o', es, ep, h1, h2, h3, h4, h5, h6⟩ := hd'
    exact ⟨hlen, hm, storedAllH [] xs, kt.keeps fun b ys e => by rw [upd_ne (ne_of_none e hn)]; exact e, o', es, ep, h1, h2, h3, h4, h6⟩
end
end Xh

/-! for i, x in enumerate(t), t a tuple. -/
namespace Xh
open PySem PySem.Spec PyProof.Rows L2

set_option maxHeartbeats 1000000 in
theorem meets_enum1 {v : Value} {o : Obj} {H : Heap → Prop} (B : Begins v o H) :
    Meets (Builtin.«enumerate.__new__» ⟨[.type "enumerate", v], []⟩) (fun _ R s => H s.heap ∧
      R (.ok (.ret (.ref (s.heap.push o).objs.size))) { s with heap := (s.heap.push o).push { cls := .type "enumerate", data := .fields #[.none, .bool false, .ref s.heap.objs.size, rawInt 0, .none, .none] } }) :=
  .of_wp fun prog w A R s h => by
    obtain ⟨hp, g, d, tk, os⟩ := s; obtain ⟨h1, h⟩ := h
    have hsub := sub_enumerate
    have q1 : ∀ {A' : Around} {E : Value → Shared → Prop} {Q : Value → Shared → Prop}, Q (.ref hp.objs.size) ⟨hp.push o, g, d, tk, os⟩ → wpAny (model prog w) A' (pyIter v) Q E ⟨hp, g, d, tk, os⟩ :=
      fun q => B.iter prog w _ _ ⟨hp, g, d, tk, os⟩ _ h1 q
    wp_walk using q1
    refine wpAny_stack_any fun st => wpAny_pure ?_
    split
    · rename_i c _ _ _ _ _
      cases (c == Value.type "enumerate")
      · wp_walk using q1
        exact ⟨_, rfl, h⟩
      · wp_walk using q1
        exact ⟨_, rfl, h⟩
    · wp_walk using q1
      exact ⟨_, rfl, h⟩
section
variable {prog : Program} {w : World} {A : Around} {E : Value → Shared → Prop} {s : Shared}
theorem enum1 {v : Value} {o : Obj} {H : Heap → Prop} {Q : Value → Shared → Prop} (B : Begins v o H) (h1 : H s.heap)
    (h : ∀ h', IsEnum h' (s.heap.objs.size + 1) s.heap.objs.size 0 .none → h'.get? s.heap.objs.size = some o → h'.objs.size = s.heap.objs.size + 2 →
      (∀ b o, s.heap.get? b = some o → h'.get? b = some o) → Q (.ref (s.heap.objs.size + 1)) { s with heap := h' }) :
    wpAny (model prog w) A (call (.type "enumerate") [v]) Q E s := by
  refine callType_new F.called_enumerate (by decide) (F.typeCall_enumerate_1 _) (F.newCall_enumerate_1 _) (fun obj => F.args_object_init_2 obj _) F.entry_enumerate_new
    (meets_enum1 B) ⟨h1, ?_⟩
  have hz : (s.heap.push o).objs.size = s.heap.objs.size + 1 := Heap.size_push ..
  show _ ∧ _
  rw [hz]
  have he : IsEnum ((s.heap.push o).push { cls := .type "enumerate", data := .fields #[.none, .bool false, .ref s.heap.objs.size, rawInt 0, .none, .none] }) (s.heap.objs.size + 1) s.heap.objs.size 0 .none := by
    have := Heap.get?_push_size (s.heap.push o) (o := { cls := .type "enumerate", data := .fields #[.none, .bool false, .ref s.heap.objs.size, rawInt 0, .none, .none] }) rfl
    rw [hz] at this; exact this
  refine ⟨⟨_, he, rfl⟩, h _ he (Heap.get?_push_of_some _ (Heap.get?_push_size _ B.free)) (by rw [Heap.size_push, hz]) fun b o x => Heap.get?_push_of_some _ (Heap.get?_push_of_some _ x)⟩
end

/-- the tuple at a, each item in a new pair with its number -/
def ItetT (K : PySem.W.Frag) (a : Addr) : It :=
  ⟨fun i H => ∃ (xs : List V) (x : V), SqT K H a xs ∧ xs[i]? = some x, fun i H v H' => ∃ T x, v = .ref T ∧ H T = none ∧ H' = upd H T (.tup [.int (i : Nat), x]) ∧ ∀ xs, SqT K H a xs → xs[i]? = some x, fun i H => ∃ xs : List V, SqT K H a xs ∧ xs.length = i⟩
theorem turn_enumT {P : Program} {w : World} {K : PySem.W.Frag} {elts : List Expr} {kk : Nat} {tpos : Pos} (a e it : Addr) :
    Turn P w K (.Tuple elts kk tpos) (ItetT K a) [e, it] e (fun i h => (∃ old, IsEnum h e it ((i : Nat) : Int) old) ∧ h.IsTupleIter it a i ∧ e ≠ it ∧ a ≠ e ∧ a ≠ it) where
  mem := by simp
  obj := fun i h st b hb => by
    obtain ⟨⟨old, he⟩, ⟨o, ho, hc, hd⟩, _⟩ := st
    have e' : b = e ∨ b = it := by simpa using hb
    rcases e' with z | z
    · rw [z]; exact ⟨_, he, fun v q => nomatch q⟩
    · rw [z]; exact ⟨o, ho, fun v q => by rw [hd] at q; cases q⟩
  keep := fun i h h' st k => let ⟨⟨old, he⟩, hi, hne⟩ := st; ⟨⟨old, k e (by simp) _ he⟩, hi.at fun o q => k it (by simp) o q, hne⟩
  item := by
    intro X hP hw hK hc i pins s σ H E I hf st hg
    subst hP hw hK
    obtain ⟨⟨old, he⟩, hit, hne, hae, hai⟩ := st
    obtain ⟨xs, x, hq, hx⟩ := hg
    obtain ⟨its, rv, p, hz⟩ := I.tuple hq
    obtain ⟨u, hu, ru⟩ := rv.get hx
    have hel : e < s.heap.objs.size := Heap.lt_size he
    have hil : it < s.heap.objs.size := by obtain ⟨_, q, _⟩ := hit; exact Heap.lt_size q
    have hlt : i < its.toArray.size := by
      have := (List.getElem?_eq_some_iff.mp hu).1
      simpa using this
    refine wpAny_pyNext_enum_itemD (Draws.tuple (A := X.A.in1) (I.ok.hd hc) it a hai its.toArray) he ⟨hit, p⟩ hlt hne (by simp [hne, hae.symm]) fun v h' tk hP ho hst hT hsz hk => ?_
    have ev : v = u := by
      have q1 : its[i]? = some v := by simpa using hP
      exact Option.some.inj (q1.symm.trans hu)
    subst ev
    refine ⟨_, rfl, wpAny_letOwnedTupleGo_enum (s := { s with heap := h', toks := tk + 1 }) ho fun h'' he' sb => ?_⟩
    have hT2 : h''.get? s.heap.objs.size = some { cls := .type "tuple", data := .seq #[.int i tk, v] } := (sb.2 _ (Nat.ne_of_gt hel)).trans hT
    have new : ObjOk X.prog X.w (upd H s.heap.objs.size (.tup [.int (i : Nat), x])) h'' s.heap.objs.size (.tup [.int (i : Nat), x]) :=
      ⟨by show 2 ≤ sizeLine; decide, [.int i tk, v], .cons ⟨_, rfl⟩ (.cons ru .nil), ⟨_, hT2, rfl, _, rfl⟩⟩
    have I1 : Inv X pins σ (upd H s.heap.objs.size (.tup [.int (i : Nat), x])) { s with heap := h'', toks := tk + 1 } :=
      I.turnedNew (ch := [e, it]) (fun b ob hb q => (sb.2 b (fun z => hb (by simp [z]))).trans (hk b ob (fun z => hb (by simp [z])) (fun z => hb (by simp [z])) q)) hf (Nat.le_refl _) new
    refine ⟨.ref s.heap.objs.size, _, I1, rfl, ⟨_, x, rfl, I.hok.fresh (Nat.le_refl _), rfl, fun ys hy => by rw [I.tuple_inj hy hq]; exact hx⟩, ⟨⟨v, ?_⟩, hst.1.at fun o q => (sb.2 it (Ne.symm hne)).trans q, hne, hae, hai⟩, fun b hb => ?_⟩
    · have e1 : ((i + 1 : Nat) : Int) = (i : Int) + 1 := by omega
      rw [e1]; exact he'
    · have hb' : b < s.heap.objs.size := by
        have e' : b = e ∨ b = it := by simpa using hb
        rcases e' with z | z
        · rw [z]; exact hel
        · rw [z]; exact hil
      rw [upd_ne (Nat.ne_of_lt hb')]
      exact (hf b hb).1
  done := by
    intro X hP hw hK hc i pins s σ H E I hf st hg
    subst hP hw hK
    obtain ⟨⟨old, he⟩, hit, hne, hae, hai⟩ := st
    obtain ⟨xs, hq, hx⟩ := hg
    obtain ⟨its, rv, p, hz⟩ := I.tuple hq
    obtain ⟨f0, f1, f2, f3, f4, f5⟩ := hf it (by simp)
    have hl := rv.length
    have hi : i = its.toArray.size := by simp; omega
    subst hi
    exact wpAny_pyNext_enum_endD (Draws.tuple (A := X.A.in1) (I.ok.hd hc) it a hai its.toArray) he ⟨hit, p⟩ fun h' eb => ⟨rfl, I.turned (t' := s.toks) (fun b o hb q => eb b o hb q) f0 f1 f3 f4 f5⟩
  self := fun A i s Q E st h => let ⟨⟨_, he⟩, _⟩ := st; wpAny_pyIter_enum he h

def iEnumT (K : PySem.W.Frag) (ta : TA) : TI := fun σ H R => ta σ H fun vs H1 => ∃ a xs, vs = [.ref a] ∧ SqT K H1 a xs ∧ R (ItetT K a) H1
theorem pi_enumT {X : Cx} {e : Expr} {ta : TA} {p pos tpos : Pos} {elts : List Expr} {kk : Nat} (hg : Gl X "enumerate") (hm : X.mg "enumerate" = none) (ha : PA X [e] ta) (hs : starEach [e] X.env = [(false, eval e X.env)] := by rfl) :
    PI X (.Tuple elts kk tpos) (.Call (.Name "enumerate" p) [e] [] pos) (iEnumT X.K ta) := by
  refine ⟨fun pins s σ H R I h => ?_⟩
  refine Call_ (ld_blt I hg hm boot_enumerate (PyProof.Rows.callWith_type1 (thn (ha.run pos pins s σ H _ I h) fun us s1 ⟨vs, H1, I1, r1, q1⟩ => ?_) hs rfl))
  obtain ⟨a, xs, ex, hq, q⟩ := q1
  subst ex
  cases r1 with
  | cons r rr =>
    cases rr
    cases r
    obtain ⟨its, rv, p', hz⟩ := I1.tuple hq
    have hal : a < s1.heap.objs.size := p'.lt
    refine enum1 (begins_tuple a its.toArray) p' fun h' he hit hsz hk => wpAny_pyIter_enum he ?_
    have I2 : Inv X pins σ H1 { s1 with heap := h' } := I1.kept (t' := s1.toks) hk
    refine ⟨s1.heap.objs.size + 1, [s1.heap.objs.size + 1, s1.heap.objs.size], _, _, H1, rfl, I2, turn_enumT a (s1.heap.objs.size + 1) s1.heap.objs.size, ⟨⟨.none, he⟩, ⟨_, hit, rfl, rfl⟩, Nat.succ_ne_self _, Nat.ne_of_lt (Nat.lt_succ_of_lt hal), Nat.ne_of_lt hal⟩, fun b hb => ?_, q⟩
    have e' : b = s1.heap.objs.size + 1 ∨ b = s1.heap.objs.size := by simpa using hb
    have hle : s1.heap.objs.size ≤ b := by
      rcases e' with z | z
      · rw [z]; exact Nat.le_add_right _ _
      · rw [z]; exact Nat.le_refl _
    exact I1.fpOk hle (I1.hok.fresh hle)
theorem walk_enumT {K : PySem.W.Frag} {a : Addr} {xs : List V} : Walk (ItetT K a) xs.length (fun H => SqT K H a xs) (YPair (fun i => some (.int (i : Nat))) (fun i => xs[i]?)) where
  goes := fun i H hi h => ⟨xs, xs[i], h, List.getElem?_eq_getElem hi⟩
  stops := fun H h => ⟨xs, h, rfl⟩
  yields := fun i H x H' hi h y => by
    obtain ⟨T, v, e, hn, eh, f⟩ := y
    exact ⟨T, .int (i : Nat), v, e, hn, eh, rfl, f xs h⟩
end Xh

/-! Data: what stands at a value, as plain Lean data; expressions that make data. -/
namespace Xh
open PySem PySem.Spec PyProof.Rows L2 Evl

/-! ### defs of the text -/
/-- a def as the top has left it -/
structure Def (K : PySem.W.Frag) (mg : Str → Option Value) (x : Str) (st : Stmt) (ps : List Str) : Prop where
  ex : ∃ (f : Addr) (fd : FuncData), Fun K x x st f fd ∧ mg x = some (.ref f) ∧ Binds K fd ps []
/-- a def that keeps a promise -/
structure Fn (P : Program) (w : World) (K : PySem.W.Frag) (mg : Str → Option Value) (base : Heap) (k : Nat) (x : Str) (ps : List Str) (sp : Sp) : Prop where
  ex : ∃ (f : Addr) (fd : FuncData), FnOk P w K mg base (L2.CX P w) k f fd ps sp ∧ mg x = some (.ref f) ∧ PySem.W.keepIn K (.ref f) = true ∧ Binds K fd ps []
theorem Fn.mono {P : Program} {w : World} {K : PySem.W.Frag} {mg : Str → Option Value} {base : Heap} {j k : Nat} {x : Str} {ps : List Str} {sp : Sp} (F : Fn P w K mg base j x ps sp) (h : j ≤ k) : Fn P w K mg base k x ps sp := by
  obtain ⟨f, fd, a, b⟩ := F.ex
  exact ⟨f, fd, a.mono h, b⟩
theorem Def.ok {P : Program} {w : World} {K : PySem.W.Frag} {mg : Str → Option Value} {base : Heap} {x : Str} {st : Stmt} {ps N : List Str} {k : Nat} {sp : Sp} (D : Def K mg x st ps) (S : FnScope N ps (defScope st)) (len : ∀ vs H Q E, sp vs H Q E → vs.length = ps.length)
    (hbody : ∀ (f : Addr) (cdv : Value) (A : Around) (outer : List Env) (s : Shared) (H : Hp) (vs : List V) (Q : VK) (E : XK), Room k (A.deeper (envOfC x (defScope st) s.heap.objs.size f cdv)) → sp vs H Q E →
      ∃ t, PSs (cxOf (L2.CX P w) P w K mg base N x (defScope st) f cdv A outer s H E) (defBody st) t ∧ t { nx := fun _ H' => Q .non H', rt := Q } (start N vs) H) : Fn P w K mg base (k + 1) x ps sp := by
  obtain ⟨f, fd, F, hm, hb⟩ := D.ex
  exact ⟨f, fd, F.okX S len (hbody f), hm, F.kp, hb⟩
section
variable {X : Cx} {k : Nat} {x : Str} {ps : List Str} {sp : Sp} {e : Expr} {es : List Expr} {t : TA} {pos p : Pos}
/-- a call that lets nothing out -/
theorem pe_fn (F : Fn X.prog X.w X.K X.mg X.base k x ps sp) (hr : Room k X.A) (ha : PA X (e :: es) t) (hg : Gl X x := by rfl) (hdb : (x == ("__debug__" : Str)) = false := by decide) (he : starEach (e :: es) X.env = (false, eval e X.env) :: starEach es X.env := by rfl)
    (hpl : (backTo pos (starEach es X.env)).any (·.1) = false := by rfl) : PE X (.Call (.Name x p) (e :: es) [] pos) (tCall sp [] E0 t) := by
  obtain ⟨f, fd, F, hm, hk, hb⟩ := F.ex
  exact pe_call F hr hg hm hk hb .nil passL ha hdb he hpl
end

/-! ### data -/
/-- of tuples, not of ints -/
def isFz : List PyData → Bool
  | .tuple _ :: _ => true
  | _ => false
mutual
inductive Tp (H : Hp) : V → PyData → Prop
  | non : Tp H .non .none
  | bl (b : Bool) : Tp H (.bl b) (.bool b)
  | int (i : Int) : Tp H (.int i) (.int i)
  | str (x : Str) : Tp H (.str x) (.str x)
  | tup {a : Addr} {xs : List V} {ds : List PyData} : H a = some (.tup xs) → TpAll H xs ds → Tp H (.ref a) (.tuple ds)
  | fz {a : Addr} {o : Obj} {xs : List V} {ds : List PyData} : H a = some (.frz o (.tup xs)) → TpAll H xs ds → isFz ds = true → Tp H (.ref a) (.tuple ds)
  | lz {a : Addr} {o : Obj} {xs : List V} {ds : List PyData} : H a = some (.frz o (.lst xs)) → TpAll H xs ds → Tp H (.ref a) (.list ds)
inductive TpAll (H : Hp) : List V → List PyData → Prop
  | nil : TpAll H [] []
  | cons {v : V} {vs : List V} {d : PyData} {ds : List PyData} : Tp H v d → TpAll H vs ds → TpAll H (v :: vs) (d :: ds)
end
/-- tuples stay -/
def isTupO : HO → Bool
  | .tup _ => true
  | .frz _ (.tup _) => true
  | .frz _ (.lst _) => true
  | _ => false
def Ts (H H' : Hp) : Prop := ∀ a u, isTupO u = true → H a = some u → H' a = some u
theorem Same.ts {H H' : Hp} (e : Same H H') : Ts H H' := fun a u _ h => e a u h
theorem Ts.rd {H H' : Hp} (e : Ts H H') {a : Addr} {xs : List V} (h : Rd H a (.tup xs)) : Rd H' a (.tup xs) := by
  rcases h with h | ⟨o, h⟩
  · exact .inl (e _ _ rfl h)
  · exact .inr ⟨o, e _ _ rfl h⟩
mutual
theorem Tp.ts {H H' : Hp} (e : Ts H H') : ∀ (d : PyData) (v : V), Tp H v d → Tp H' v d
  | .none, _, .non => .non
  | .bool b, _, .bl _ => .bl b
  | .int i, _, .int _ => .int i
  | .str x, _, .str _ => .str x
  | .tuple ds, _, .tup h t => .tup (e _ _ rfl h) (TpAll.ts e ds _ t)
  | .tuple ds, _, .fz h t z => .fz (e _ _ rfl h) (TpAll.ts e ds _ t) z
  | .list ds, _, .lz h t => .lz (e _ _ rfl h) (TpAll.ts e ds _ t)
theorem TpAll.ts {H H' : Hp} (e : Ts H H') : ∀ (ds : List PyData) (vs : List V), TpAll H vs ds → TpAll H' vs ds
  | [], _, .nil => .nil
  | d :: ds, _, .cons h t => .cons (Tp.ts e d _ h) (TpAll.ts e ds _ t)
end
theorem Tp.mono {H H' : Hp} {v : V} {d : PyData} (h : Tp H v d) (e : Same H H') : Tp H' v d := Tp.ts (Same.ts e) d v h
theorem TpAll.mono {H H' : Hp} {vs : List V} {ds : List PyData} (h : TpAll H vs ds) (e : Same H H') : TpAll H' vs ds := TpAll.ts (Same.ts e) ds vs h
theorem Tp.mono' {H H' : Hp} {v : V} {d : PyData} (h : Tp H v d) (e : Ts H H') : Tp H' v d := Tp.ts e d v h
theorem TpAll.mono' {H H' : Hp} {vs : List V} {ds : List PyData} (h : TpAll H vs ds) (e : Ts H H') : TpAll H' vs ds := TpAll.ts e ds vs h
mutual
theorem Tp.dp {K : PySem.W.Frag} {H : Hp} : ∀ (d : PyData) (v : V), Tp H v d → Dp K H v d
  | .none, _, .non => .non
  | .bool b, _, .bl _ => .bl b
  | .int i, _, .int _ => .int i
  | .str x, _, .str _ => .str x
  | .tuple ds, _, .tup h t => .tup (.inl (.inl h)) (TpAll.dp ds _ t)
  | .tuple ds, _, .fz h t z => .tup (.inl (.inr ⟨_, h⟩)) (TpAll.dp ds _ t)
  | .list ds, _, .lz h t => .lst (.inl (.inr ⟨_, h⟩)) (TpAll.dp ds _ t)
theorem TpAll.dp {K : PySem.W.Frag} {H : Hp} : ∀ (ds : List PyData) (vs : List V), TpAll H vs ds → DpAll K H vs ds
  | [], _, .nil => .nil
  | d :: ds, _, .cons h t => .cons (Tp.dp d _ h) (TpAll.dp ds _ t)
end
theorem Tp.toDp {K : PySem.W.Frag} {H : Hp} {v : V} {d : PyData} (h : Tp H v d) : Dp K H v d := Tp.dp d v h
section
variable {H : Hp}
theorem tp_int {v : V} {i : Int} (h : Tp H v (.int i)) : v = .int i := by cases h; rfl
theorem tp_bl {v : V} {b : Bool} (h : Tp H v (.bool b)) : v = .bl b := by cases h; rfl
theorem tp_non {v : V} (h : Tp H v .none) : v = .non := by cases h; rfl
theorem tp_tup {v : V} {ds : List PyData} (h : Tp H v (.tuple ds)) : ∃ a xs, v = .ref a ∧ Rd H a (.tup xs) ∧ TpAll H xs ds := by
  cases h with
  | tup h t => exact ⟨_, _, rfl, .inl h, t⟩
  | fz h t z => exact ⟨_, _, rfl, .inr ⟨_, h⟩, t⟩
theorem TpAll.length : ∀ {vs : List V} {ds : List PyData}, TpAll H vs ds → vs.length = ds.length
  | _, _, .nil => rfl
  | _, _, .cons _ t => by rw [List.length_cons, List.length_cons, TpAll.length t]
theorem TpAll.get : ∀ {vs : List V} {ds : List PyData} {i : Nat} {v : V}, TpAll H vs ds → vs[i]? = some v → ∃ d, ds[i]? = some d ∧ Tp H v d
  | _, _, _, _, .nil, e => by simp at e
  | _, _, 0, _, .cons h _, e => by
    have e' := Option.some.inj e
    subst e'
    exact ⟨_, rfl, h⟩
  | _, _, i + 1, v, .cons _ t, e => by
    obtain ⟨d, h1, h2⟩ := TpAll.get (i := i) (v := v) t (by simpa using e)
    exact ⟨d, by simpa using h1, h2⟩
theorem TpAll.get' : ∀ {vs : List V} {ds : List PyData} {i : Nat} {d : PyData}, TpAll H vs ds → ds[i]? = some d → ∃ v, vs[i]? = some v ∧ Tp H v d
  | _, _, _, _, .nil, e => by simp at e
  | _, _, 0, _, .cons h _, e => by
    have e' := Option.some.inj e
    subst e'
    exact ⟨_, rfl, h⟩
  | _, _, i + 1, d, .cons _ t, e => by
    obtain ⟨v, h1, h2⟩ := TpAll.get' (i := i) (d := d) t (by simpa using e)
    exact ⟨v, by simpa using h1, h2⟩
theorem TpAll.append : ∀ {vs ws : List V} {ds es : List PyData}, TpAll H vs ds → TpAll H ws es → TpAll H (vs ++ ws) (ds ++ es)
  | _, _, _, _, .nil, s => s
  | _, _, _, _, .cons h t, s => .cons h (TpAll.append t s)
theorem TpAll.take : ∀ {vs : List V} {ds : List PyData} (n : Nat), TpAll H vs ds → TpAll H (vs.take n) (ds.take n)
  | _, _, 0, _ => .nil
  | _, _, _ + 1, .nil => .nil
  | _, _, n + 1, .cons h t => .cons h (TpAll.take n t)
theorem TpAll.drop : ∀ {vs : List V} {ds : List PyData} (n : Nat), TpAll H vs ds → TpAll H (vs.drop n) (ds.drop n)
  | _, _, 0, r => r
  | _, _, _ + 1, .nil => .nil
  | _, _, n + 1, .cons _ t => TpAll.drop n t
theorem tpAll_one {vs : List V} {d : PyData} (h : TpAll H vs [d]) : ∃ v, vs = [v] ∧ Tp H v d := by
  cases h with
  | cons h t => cases t; exact ⟨_, rfl, h⟩
theorem tpAll_two {vs : List V} {d e : PyData} (h : TpAll H vs [d, e]) : ∃ v w, vs = [v, w] ∧ Tp H v d ∧ Tp H w e := by
  cases h with
  | cons h t =>
    obtain ⟨w, rfl, h2⟩ := tpAll_one t
    exact ⟨_, _, rfl, h, h2⟩
theorem tpAll_three {vs : List V} {d e f : PyData} (h : TpAll H vs [d, e, f]) : ∃ v w x, vs = [v, w, x] ∧ Tp H v d ∧ Tp H w e ∧ Tp H x f := by
  cases h with
  | cons h t =>
    obtain ⟨w, x, rfl, h2, h3⟩ := tpAll_two t
    exact ⟨_, _, _, rfl, h, h2, h3⟩
end

/-! ### rows, rows of rows, bundles -/
abbrev Row := List Int
def rowD (ns : Row) : PyData := .tuple (ns.map .int)
def rowsD (cs : List Row) : PyData := .tuple (cs.map rowD)
def bunD (n : Int) (cs : List Row) : PyData := .tuple [.int n, rowsD cs]
section
variable {H : Hp}
theorem tpAll_ints : ∀ {vs : List V} {ns : Row}, TpAll H vs (ns.map .int) → vs = ns.map V.int
  | _, [], h => by cases h; rfl
  | _, n :: ns, h => by
    cases h with
    | cons h t => rw [tp_int h, tpAll_ints t, List.map_cons]
theorem ints_tpAll : ∀ ns : Row, TpAll H (ns.map V.int) (ns.map .int)
  | [] => .nil
  | n :: ns => .cons (.int n) (ints_tpAll ns)
theorem tp_row {v : V} {ns : Row} (h : Tp H v (rowD ns)) : ∃ a, v = .ref a ∧ H a = some (.tup (ns.map V.int)) := by
  unfold rowD at h
  generalize hds : ns.map PyData.int = ds at h
  cases h with
  | tup h1 h2 =>
    subst hds
    rw [tpAll_ints h2] at h1
    exact ⟨_, rfl, h1⟩
  | fz h1 h2 z =>
    subst hds
    cases ns <;> cases z
theorem row_tp {a : Addr} {ns : Row} (h : H a = some (.tup (ns.map V.int))) : Tp H (.ref a) (rowD ns) := .tup h (ints_tpAll ns)
/-- the rows of a list of tuples, with their addresses -/
theorem tp_rws : ∀ {vs : List V} {cs : List Row}, TpAll H vs (cs.map rowD) → ∃ L : Rws, vs = L.map (fun p => V.ref p.1) ∧ L.map (·.2) = cs ∧ ∀ p ∈ L, H p.1 = some (.tup (p.2.map V.int))
  | _, [], h => by cases h; exact ⟨[], rfl, rfl, fun p hp => by simp at hp⟩
  | _, c :: cs, h => by
    cases h with
    | cons h t =>
      obtain ⟨a, rfl, h1⟩ := tp_row h
      obtain ⟨L, rfl, e2, h2⟩ := tp_rws t
      refine ⟨(a, c) :: L, rfl, by rw [List.map_cons, e2], fun p hp => ?_⟩
      rcases List.mem_cons.mp hp with e | hp
      · rw [e]; exact h1
      · exact h2 p hp
theorem rws_tp : ∀ {L : Rws}, (∀ p ∈ L, H p.1 = some (.tup (p.2.map V.int))) → TpAll H (L.map fun p => V.ref p.1) ((L.map (·.2)).map rowD)
  | [], _ => .nil
  | p :: L, h => .cons (row_tp (h p List.mem_cons_self)) (rws_tp fun q hq => h q (List.mem_cons_of_mem _ hq))
end
theorem rowD_inj {a b : Row} : rowD a = rowD b ↔ a = b := by
  constructor
  · intro h
    have h' : a.map PyData.int = b.map PyData.int := by
      have := h
      unfold rowD at this
      injection this
    exact List.map_inj_right (fun x y e => by injection e) |>.mp h'
  · intro h; rw [h]
theorem eqv_ints : ∀ a b : Row, PyData.eqvAll (a.map .int) (b.map .int) = decide (a = b)
  | [], [] => by simp [PyData.eqvAll]
  | [], _ :: _ => by simp [PyData.eqvAll]
  | _ :: _, [] => by simp [PyData.eqvAll]
  | x :: a, y :: b => by
    rw [List.map_cons, List.map_cons]
    simp only [PyData.eqvAll, PyData.eqv, eqv_ints a b]
    by_cases e : x = y
    · subst e
      by_cases e2 : a = b
      · subst e2; simp
      · simp [e2]
    · simp [e]
theorem eqv_row (a b : Row) : PyData.eqv (rowD a) (rowD b) = decide (a = b) := by
  unfold rowD
  simp only [PyData.eqv]
  exact eqv_ints a b
theorem eqv_rowsAll : ∀ a b : List Row, PyData.eqvAll (a.map rowD) (b.map rowD) = decide (a = b)
  | [], [] => by simp [PyData.eqvAll]
  | [], _ :: _ => by simp [PyData.eqvAll]
  | _ :: _, [] => by simp [PyData.eqvAll]
  | x :: a, y :: b => by
    rw [List.map_cons, List.map_cons]
    simp only [PyData.eqvAll, eqv_row, eqv_rowsAll a b]
    by_cases e : x = y
    · subst e
      by_cases e2 : a = b
      · subst e2; simp
      · simp [e2]
    · simp [e]
theorem eqv_rows (a b : List Row) : PyData.eqv (rowsD a) (rowsD b) = decide (a = b) := by
  unfold rowsD
  simp only [PyData.eqv]
  exact eqv_rowsAll a b
theorem eqv_bun (n m : Int) (a b : List Row) : PyData.eqv (bunD n a) (bunD m b) = decide (n = m ∧ a = b) := by
  unfold bunD
  simp only [PyData.eqv, PyData.eqvAll, eqv_rows]
  by_cases e : n = m
  · subst e
    by_cases e2 : a = b
    · subst e2; simp
    · simp [e2]
  · simp [e]
theorem lay_ints : ∀ ns : Row, PyData.canLayAll0 (ns.map .int) = true
  | [] => by simp [PyData.canLayAll0]
  | n :: ns => by simp [PyData.canLayAll0, PyData.canLay0, lay_ints ns]
theorem depth_ints : ∀ ns : Row, PyData.depthAll (ns.map .int) ≤ 1
  | [] => by simp [PyData.depthAll]
  | n :: ns => by
    have h := depth_ints ns
    simp only [List.map_cons, PyData.depthAll, PyData.depth]
    omega
theorem lay_row (ns : Row) : (rowD ns).canLay0 = true := by unfold rowD; simp only [PyData.canLay0]; exact lay_ints ns
theorem depth_row (ns : Row) : (rowD ns).depth ≤ 2 := by
  have h := depth_ints ns
  unfold rowD
  simp only [PyData.depth]
  omega
theorem lay_rowsAll : ∀ cs : List Row, PyData.canLayAll0 (cs.map rowD) = true
  | [] => by simp [PyData.canLayAll0]
  | c :: cs => by simp [PyData.canLayAll0, lay_row c, lay_rowsAll cs]
theorem depth_rowsAll : ∀ cs : List Row, PyData.depthAll (cs.map rowD) ≤ 2
  | [] => by simp [PyData.depthAll]
  | c :: cs => by
    have h := depth_rowsAll cs
    have h2 := depth_row c
    simp only [List.map_cons, PyData.depthAll]
    omega
theorem shaped_mk {d : PyData} (h : d.canLay0 = true) (h2 : d.depth ≤ 64) : SeqAt.shaped d = true := by
  show (d.canLay0 && decide (d.depth ≤ 64)) = true
  rw [Bool.and_eq_true]
  exact ⟨h, decide_eq_true h2⟩
theorem shaped_row (ns : Row) : SeqAt.shaped (rowD ns) = true := shaped_mk (lay_row ns) (by have := depth_row ns; omega)
theorem lay_rows (cs : List Row) : (rowsD cs).canLay0 = true := by unfold rowsD; simp only [PyData.canLay0]; exact lay_rowsAll cs
theorem depth_rows (cs : List Row) : (rowsD cs).depth ≤ 3 := by
  have h := depth_rowsAll cs
  unfold rowsD
  simp only [PyData.depth]
  omega
theorem shaped_rows (cs : List Row) : SeqAt.shaped (rowsD cs) = true := shaped_mk (lay_rows cs) (by have := depth_rows cs; omega)
theorem shaped_bun (n : Int) (cs : List Row) : SeqAt.shaped (bunD n cs) = true := by
  have h := depth_rows cs
  refine shaped_mk ?_ ?_
  · unfold bunD
    simp [PyData.canLay0, PyData.canLayAll0, lay_rows cs]
  · unfold bunD
    simp only [PyData.depth, PyData.depthAll]
    omega
end Xh

/-! Expressions that make data (EvD), tests (EvB), arguments (EvDs), new lists (EvLs). -/
namespace Xh
open PySem PySem.Spec PyProof.Rows L2

def EvD (te : TE) (σ : L2.St) (H : Hp) (d : PyData) : Prop := ∀ H1, Same H H1 → ∀ Q : VK, (∀ v H2, Same H1 H2 → Tp H2 v d → Q v H2) → te σ H1 Q
def EvB (tt : TT) (σ : L2.St) (H : Hp) (b : Bool) : Prop := ∀ H1, Same H H1 → ∀ Q : Bool → Hp → Prop, (∀ H2, Same H1 H2 → Q b H2) → tt σ H1 Q
def EvDs (ta : TA) (σ : L2.St) (H : Hp) (ds : List PyData) : Prop := ∀ H1, Same H H1 → ∀ Q : List V → Hp → Prop, (∀ vs H2, Same H1 H2 → TpAll H2 vs ds → Q vs H2) → ta σ H1 Q
/-- a new list of data -/
def EvLs (te : TE) (σ : L2.St) (H : Hp) (ds : List PyData) : Prop := ∀ H1, Same H H1 → ∀ Q : VK, (∀ p xs H2, H1 p = none → Same H1 H2 → H2 p = some (.lst xs) → TpAll H2 xs ds → Q (.ref p) H2) → te σ H1 Q

/-- a list of data -/
def EvLv (te : TE) (σ : L2.St) (H : Hp) (ds : List PyData) : Prop := ∀ H1, Same H H1 → ∀ Q : VK, (∀ p xs H2, Same H1 H2 → H2 p = some (.lst xs) → TpAll H2 xs ds → Q (.ref p) H2) → te σ H1 Q
theorem EvLs.v {te : TE} {σ : L2.St} {H : Hp} {ds : List PyData} (h : EvLs te σ H ds) : EvLv te σ H ds := fun H1 s Q q => h H1 s Q fun p xs H2 _ => q p xs H2
theorem Same.new {H : Hp} {p : Addr} {o : HO} (h : H p = none) : Same H (upd H p o) := fun a u e => by
  rw [upd_ne (ne_of_none e h)]
  exact e
theorem Same.mut {H H' : Hp} {p : Addr} {o : HO} (e : Same H H') (h : H p = none) : Same H (upd H' p o) := fun a u ha => by
  rw [upd_ne (ne_of_none ha h)]
  exact e a u ha
theorem sqr {K : PySem.W.Frag} {H : Hp} {a : Addr} {xs : List V} (h : Rd H a (.tup xs)) : SqT K H a xs := .inl h
theorem sqt {K : PySem.W.Frag} {H : Hp} {a : Addr} {xs : List V} (h : H a = some (.tup xs)) : SqT K H a xs := .inl (.inl h)
theorem sql {K : PySem.W.Frag} {H : Hp} {a : Addr} {xs : List V} (h : H a = some (.lst xs)) : SqL K H a xs := .inl (.inl h)
theorem sz {n : Nat} (h : n ≤ 100000) : n ≤ sizeLine := Nat.le_trans h (by decide)

section
variable {K : PySem.W.Frag} {σ : L2.St} {H H' : Hp} {ta tb tc te : TE} {t u : TT} {tr : TA} {d e : PyData} {ds es : List PyData} {i j : Int} {b c : Bool}
theorem EvD.mono (s : Same H H') (h : EvD te σ H d) : EvD te σ H' d := fun H1 a Q q => h H1 (s.trans a) Q q
theorem EvB.mono (s : Same H H') (h : EvB t σ H b) : EvB t σ H' b := fun H1 a Q q => h H1 (s.trans a) Q q
theorem EvDs.mono (s : Same H H') (h : EvDs tr σ H ds) : EvDs tr σ H' ds := fun H1 a Q q => h H1 (s.trans a) Q q
theorem EvLs.mono (s : Same H H') (h : EvLs te σ H ds) : EvLs te σ H' ds := fun H1 a Q q => h H1 (s.trans a) Q q
theorem EvD.is (h : EvD te σ H d) (x : d = e) : EvD te σ H e := x ▸ h
theorem EvB.is (h : EvB t σ H b) (x : b = c) : EvB t σ H c := x ▸ h
theorem EvLv.mono (s : Same H H') (h : EvLv te σ H ds) : EvLv te σ H' ds := fun H1 a Q q => h H1 (s.trans a) Q q
theorem EvLv.is (h : EvLv te σ H ds) (x : ds = es) : EvLv te σ H es := x ▸ h
theorem EvLs.is (h : EvLs te σ H ds) (x : ds = es) : EvLs te σ H es := x ▸ h

theorem d_var {n : Nat} {v : V} (h : σ[n]? = some (some v)) (x : Tp H v d) : EvD (tVar n) σ H d := fun H1 a _ q => ⟨v, h, q v H1 (Same.refl _) (x.mono a)⟩
theorem v_var {n : Nat} {p : Addr} {xs : List V} (h : σ[n]? = some (some (.ref p))) (h1 : H p = some (.lst xs)) (h2 : TpAll H xs ds) : EvLv (tVar n) σ H ds := fun H1 a _ q => ⟨.ref p, h, q p xs H1 (Same.refl _) (a _ _ h1) (h2.mono a)⟩
theorem d_c {v : V} (x : ∀ H, Tp H v d) : EvD (tC v) σ H d := fun H1 _ _ q => q v H1 (Same.refl _) (x H1)
theorem d_int : EvD (tC (.int i)) σ H (.int i) := d_c fun _ => .int i
theorem d_bl : EvD (tC (.bl b)) σ H (.bool b) := d_c fun _ => .bl b
theorem d_non : EvD (tC .non) σ H .none := d_c fun _ => .non
theorem d_str {x : Str} : EvD (tC (.str x)) σ H (.str x) := d_c fun _ => .str x

/-- two operands, a rule that leaves the heap -/
theorem d_op {r : R2} {f : PyData} (ha : EvD ta σ H d) (hb : EvD tb σ H e) (hr : ∀ v w H1, Same H H1 → Tp H1 v d → Tp H1 w e → ∀ Q : VK, (∀ x H2, Same H1 H2 → Tp H2 x f → Q x H2) → r v w H1 Q) : EvD (tOp r ta tb) σ H f := fun H1 s Q q =>
  ha H1 s _ fun v H2 s2 x => hb H2 (s.trans s2) _ fun w H3 s3 y => hr v w H3 ((s.trans s2).trans s3) (x.mono s3) y Q fun z H4 s4 t => q z H4 ((s2.trans s3).trans s4) t
theorem d_I0 {g : Int → Int → V} {f : PyData} (ha : EvD ta σ H (.int i)) (hb : EvD tb σ H (.int j)) (x : ∀ H, Tp H (g i j) f) : EvD (tOp (rI0 g) ta tb) σ H f :=
  d_op ha hb fun v w H1 _ h1 h2 Q q => ⟨i, j, tp_int h1, tp_int h2, q _ H1 (Same.refl _) (x H1)⟩
theorem d_I {C : Int → Int → Prop} {g : Int → Int → V} {f : PyData} (hc : C i j) (ha : EvD ta σ H (.int i)) (hb : EvD tb σ H (.int j)) (x : ∀ H, Tp H (g i j) f) : EvD (tOp (rI C g) ta tb) σ H f :=
  d_op ha hb fun v w H1 _ h1 h2 Q q => ⟨i, j, tp_int h1, tp_int h2, hc, q _ H1 (Same.refl _) (x H1)⟩
theorem d_add (ha : EvD ta σ H (.int i)) (hb : EvD tb σ H (.int j)) : EvD (tOp (rI0 fun i j => .int (i + j)) ta tb) σ H (.int (i + j)) := d_I0 ha hb fun _ => .int _
theorem d_sub (ha : EvD ta σ H (.int i)) (hb : EvD tb σ H (.int j)) : EvD (tOp (rI0 fun i j => .int (i - j)) ta tb) σ H (.int (i - j)) := d_I0 ha hb fun _ => .int _
theorem d_mul (ha : EvD ta σ H (.int i)) (hb : EvD tb σ H (.int j)) (hc : CMul i j) : EvD (tOp (rI CMul fun i j => .int (i * j)) ta tb) σ H (.int (i * j)) := d_I hc ha hb fun _ => .int _
theorem d_fdiv (ha : EvD ta σ H (.int i)) (hb : EvD tb σ H (.int j)) (hc : CDiv i j) : EvD (tOp (rI CDiv fun i j => .int (i / j)) ta tb) σ H (.int (i / j)) := d_I hc ha hb fun _ => .int _
theorem d_mod (ha : EvD ta σ H (.int i)) (hb : EvD tb σ H (.int j)) (hc : 0 < j) : EvD (tOp (rI (fun _ j => 0 < j) fun i j => .int (i % j)) ta tb) σ H (.int (i % j)) := d_I (C := fun _ j => 0 < j) hc ha hb fun _ => .int _
theorem d_lt (ha : EvD ta σ H (.int i)) (hb : EvD tb σ H (.int j)) : EvD (tOp (rI0 fun i j => .bl (decide (i < j))) ta tb) σ H (.bool (decide (i < j))) := d_I0 ha hb fun _ => .bl _
theorem d_le (ha : EvD ta σ H (.int i)) (hb : EvD tb σ H (.int j)) : EvD (tOp (rI0 fun i j => .bl (decide (i ≤ j))) ta tb) σ H (.bool (decide (i ≤ j))) := d_I0 ha hb fun _ => .bl _
theorem d_gt (ha : EvD ta σ H (.int i)) (hb : EvD tb σ H (.int j)) : EvD (tOp (rI0 fun i j => .bl (decide (j < i))) ta tb) σ H (.bool (decide (j < i))) := d_I0 ha hb fun _ => .bl _
theorem d_ge (ha : EvD ta σ H (.int i)) (hb : EvD tb σ H (.int j)) : EvD (tOp (rI0 fun i j => .bl (decide (j ≤ i))) ta tb) σ H (.bool (decide (j ≤ i))) := d_I0 ha hb fun _ => .bl _
theorem d_eqI (ha : EvD ta σ H (.int i)) (hb : EvD tb σ H (.int j)) : EvD (tOp rEq ta tb) σ H (.bool (decide (i = j))) :=
  d_op ha hb fun v w H1 _ h1 h2 Q q => by
    rw [tp_int h1, tp_int h2]
    refine ⟨rfl, ?_⟩
    rw [show decide (V.int i = V.int j) = decide (i = j) from decide_eq_decide.mpr ⟨V.int.inj, congrArg _⟩]
    exact q _ H1 (Same.refl _) (.bl _)
theorem d_neI (ha : EvD ta σ H (.int i)) (hb : EvD tb σ H (.int j)) : EvD (tOp rNe ta tb) σ H (.bool (!decide (i = j))) :=
  d_op ha hb fun v w H1 _ h1 h2 Q q => by
    rw [tp_int h1, tp_int h2]
    refine ⟨rfl, ?_⟩
    rw [show decide (V.int i = V.int j) = decide (i = j) from decide_eq_decide.mpr ⟨V.int.inj, congrArg _⟩]
    exact q _ H1 (Same.refl _) (.bl _)
theorem d_neg (ha : EvD ta σ H (.int i)) : EvD (tUn (rU fun i => .int (-i)) ta) σ H (.int (-i)) := fun H1 s Q q =>
  ha H1 s _ fun v H2 s2 x => ⟨i, tp_int x, q _ H2 s2 (.int _)⟩
/-- x is None, x is not None, for data -/
theorem d_isN (ha : EvD ta σ H d) (hd : (match d with | .none => true | _ => false) = b) : EvD (tOp (fun x y H Q => y = .non ∧ Q (.bl (decide (x = .non))) H) ta (tC .non)) σ H (.bool b) :=
  d_op ha d_non fun v w H1 _ h1 h2 Q q => by
    refine ⟨tp_non h2, ?_⟩
    have e : decide (v = .non) = b := by
      subst hd
      cases h1 <;> simp
    rw [e]
    exact q _ H1 (Same.refl _) (.bl _)
theorem d_notN (ha : EvD ta σ H d) (hd : (match d with | .none => true | _ => false) = b) : EvD (tOp (fun x y H Q => y = .non ∧ Q (.bl (!decide (x = .non))) H) ta (tC .non)) σ H (.bool (!b)) :=
  d_op ha d_non fun v w H1 _ h1 h2 Q q => by
    refine ⟨tp_non h2, ?_⟩
    have e : decide (v = .non) = b := by
      subst hd
      cases h1 <;> simp
    rw [e]
    exact q _ H1 (Same.refl _) (.bl _)
/-- == and != of data -/
theorem d_eqD (ha : EvD ta σ H d) (hb : EvD tb σ H e) (h1 : SeqAt.shaped d = true) (h2 : SeqAt.shaped e = true) (hv : PyData.eqv d e = b) : EvD (tOp (rEqD K) ta tb) σ H (.bool b) :=
  d_op ha hb fun v w H1 _ x y Q q => ⟨d, e, x.toDp, y.toDp, h1, h2, by rw [hv]; exact q _ H1 (Same.refl _) (.bl _)⟩
theorem d_neD (ha : EvD ta σ H d) (hb : EvD tb σ H e) (h1 : SeqAt.shaped d = true) (h2 : SeqAt.shaped e = true) (hv : PyData.eqv d e = b) : EvD (tOp (rNeD K) ta tb) σ H (.bool (!b)) :=
  d_op ha hb fun v w H1 _ x y Q q => ⟨d, e, x.toDp, y.toDp, h1, h2, by rw [hv]; exact q _ H1 (Same.refl _) (.bl _)⟩
theorem d_eqRow {x y : Row} (ha : EvD ta σ H (rowD x)) (hb : EvD tb σ H (rowD y)) : EvD (tOp (rEqD K) ta tb) σ H (.bool (decide (x = y))) := d_eqD ha hb (shaped_row _) (shaped_row _) (eqv_row _ _)
theorem d_neRow {x y : Row} (ha : EvD ta σ H (rowD x)) (hb : EvD tb σ H (rowD y)) : EvD (tOp (rNeD K) ta tb) σ H (.bool (!decide (x = y))) := d_neD ha hb (shaped_row _) (shaped_row _) (eqv_row _ _)
theorem d_eqBun {n m : Int} {x y : List Row} (ha : EvD ta σ H (bunD n x)) (hb : EvD tb σ H (bunD m y)) : EvD (tOp (rEqD K) ta tb) σ H (.bool (decide (n = m ∧ x = y))) := d_eqD ha hb (shaped_bun _ _) (shaped_bun _ _) (eqv_bun _ _ _ _)
theorem d_neBun {n m : Int} {x y : List Row} (ha : EvD ta σ H (bunD n x)) (hb : EvD tb σ H (bunD m y)) : EvD (tOp (rNeD K) ta tb) σ H (.bool (!decide (n = m ∧ x = y))) := d_neD ha hb (shaped_bun _ _) (shaped_bun _ _) (eqv_bun _ _ _ _)
/-- x in t of ints -/
theorem inV_ints (x : Int) : ∀ ns : Row, inV (.int x) (ns.map V.int) = decide (x ∈ ns)
  | [] => by simp [inV]
  | n :: ns => by
    have ih := inV_ints x ns
    unfold inV at ih ⊢
    rw [List.map_cons, List.any_cons, ih]
    have e : eqV (.int n) (.int x) = decide (x = n) := by
      show decide (n = x) = decide (x = n) <;> exact decide_eq_decide.mpr ⟨Eq.symm, Eq.symm⟩
    rw [e]
    by_cases h : x = n
    · simp [h]
    · simp [h]
theorem flat_ints (ns : Row) : (ns.map V.int).all flatV = true := by
  rw [List.all_map, List.all_eq_true]
  intro _ _
  rfl
theorem d_inR {ns : Row} (ha : EvD ta σ H (.int i)) (hb : EvD tb σ H (rowD ns)) : EvD (tOp (rIn K false) ta tb) σ H (.bool (decide (i ∈ ns))) :=
  d_op ha hb fun v w H1 _ x y Q q => by
    obtain ⟨a, rfl, h⟩ := tp_row y
    rw [tp_int x]
    refine ⟨a, _, rfl, .inr (sqt h), rfl, flat_ints ns, ?_⟩
    show Q (.bl (if false = true then !inV (.int i) (ns.map V.int) else inV (.int i) (ns.map V.int))) H1
    rw [if_neg Bool.false_ne_true, inV_ints]
    exact q _ H1 (Same.refl _) (.bl _)
theorem d_niR {ns : Row} (ha : EvD ta σ H (.int i)) (hb : EvD tb σ H (rowD ns)) : EvD (tOp (rIn K true) ta tb) σ H (.bool (!decide (i ∈ ns))) :=
  d_op ha hb fun v w H1 _ x y Q q => by
    obtain ⟨a, rfl, h⟩ := tp_row y
    rw [tp_int x]
    refine ⟨a, _, rfl, .inr (sqt h), rfl, flat_ints ns, ?_⟩
    show Q (.bl (if true = true then !inV (.int i) (ns.map V.int) else inV (.int i) (ns.map V.int))) H1
    rw [if_pos rfl, inV_ints]
    exact q _ H1 (Same.refl _) (.bl _)
/-- a row in rows -/
theorem any_rows (x : Row) : ∀ cs : List Row, ((cs.map rowD).any fun z => PyData.eqv z (rowD x)) = decide (x ∈ cs)
  | [] => by simp
  | c :: cs => by
    rw [List.map_cons, List.any_cons, any_rows x cs, eqv_row]
    by_cases h : x = c
    · simp [h]
    · have h' : ¬ c = x := fun z => h z.symm
      simp [h, h']
theorem d_inRs {x : Row} {cs : List Row} (ha : EvD ta σ H (rowD x)) (hb : EvD tb σ H (rowsD cs)) : EvD (tOp (rInT K) ta tb) σ H (.bool (decide (x ∈ cs))) :=
  d_op ha hb fun v w H1 _ h1 h2 Q q => ⟨_, _, h1.toDp, h2.toDp, shaped_row _, shaped_rows _, by rw [any_rows]; exact q _ H1 (Same.refl _) (.bl _)⟩
theorem d_niRs {x : Row} {cs : List Row} (ha : EvD ta σ H (rowD x)) (hb : EvD tb σ H (rowsD cs)) : EvD (tOp (rNotInT K) ta tb) σ H (.bool (!decide (x ∈ cs))) :=
  d_op ha hb fun v w H1 _ h1 h2 Q q => ⟨_, _, h1.toDp, h2.toDp, shaped_row _, shaped_rows _, by rw [any_rows]; exact q _ H1 (Same.refl _) (.bl _)⟩
/-- t[i] -/
theorem atI_map {vs : List V} (h : TpAll H vs ds) (ha : atI ds i = some d) : ∃ v, atI vs i = some v ∧ Tp H v d := by
  unfold atI at ha ⊢
  rw [TpAll.length h]
  cases e : ixN ds.length i with
  | none => rw [e] at ha; cases ha
  | some j =>
    rw [e] at ha
    obtain ⟨v, h1, h2⟩ := TpAll.get' h (show ds[j]? = some d from ha)
    exact ⟨v, h1, h2⟩
theorem d_ix (ha : EvD ta σ H (.tuple ds)) (hb : EvD tb σ H (.int i)) (hi : atI ds i = some d) : EvD (tOp (rIxT K) ta tb) σ H d :=
  d_op ha hb fun v w H1 _ x y Q q => by
    obtain ⟨a, xs, rfl, h1, h2⟩ := tp_tup x
    obtain ⟨z, h3, h4⟩ := atI_map h2 hi
    exact ⟨a, xs, i, z, rfl, tp_int y, sqr h1, h3, q _ H1 (Same.refl _) h4⟩

/-! ### tests -/
theorem b_test (h : EvD te σ H (.bool b)) : EvB (tTest te) σ H b := fun H1 s _ q => h H1 s _ fun v H2 s2 x => ⟨b, tp_bl x, q H2 s2⟩
theorem b_val (h : EvD te σ H (.bool b)) : EvB (tB te) σ H b := fun H1 s _ q => h H1 s _ fun v H2 s2 x => ⟨b, tp_bl x, q H2 s2⟩
theorem b_not (h : EvB t σ H b) : EvB (tNot t) σ H (!b) := fun H1 s _ q => h H1 s _ fun H2 s2 => q H2 s2
theorem b_yes : EvB tYes σ H true := fun H1 _ _ q => q H1 (Same.refl _)
theorem b_and (h1 : EvB t σ H b) (h2 : b = true → EvB u σ H c) : EvB (tAnd t u) σ H (b && c) := fun H1 s Q q => h1 H1 s _ fun H2 s2 => by
  cases b with
  | true => exact h2 rfl H2 (s.trans s2) Q fun H3 s3 => q H3 (s2.trans s3)
  | false => exact q H2 s2
theorem b_or (h1 : EvB t σ H b) (h2 : b = false → EvB u σ H c) : EvB (tOr t u) σ H (b || c) := fun H1 s Q q => h1 H1 s _ fun H2 s2 => by
  cases b with
  | true => exact q H2 s2
  | false => exact h2 rfl H2 (s.trans s2) Q fun H3 s3 => q H3 (s2.trans s3)
theorem d_and (h1 : EvD ta σ H (.bool b)) (h2 : b = true → EvD tb σ H (.bool c)) : EvD (tAndV ta tb) σ H (.bool (b && c)) := fun H1 s Q q => h1 H1 s _ fun v H2 s2 x => ⟨b, tp_bl x, by
  cases b with
  | true => exact h2 rfl H2 (s.trans s2) Q fun w H3 s3 y => q w H3 (s2.trans s3) y
  | false => exact q _ H2 s2 (.bl false)⟩
theorem d_or (h1 : EvD ta σ H (.bool b)) (h2 : b = false → EvD tb σ H (.bool c)) : EvD (tOrV ta tb) σ H (.bool (b || c)) := fun H1 s Q q => h1 H1 s _ fun v H2 s2 x => ⟨b, tp_bl x, by
  cases b with
  | true => exact q _ H2 s2 (.bl true)
  | false => exact h2 rfl H2 (s.trans s2) Q fun w H3 s3 y => q w H3 (s2.trans s3) y⟩
theorem d_not (h1 : EvD ta σ H (.bool b)) : EvD (tNotV ta) σ H (.bool (!b)) := fun H1 s Q q => h1 H1 s _ fun v H2 s2 x => ⟨b, tp_bl x, q _ H2 s2 (.bl _)⟩
theorem d_if (h : EvB t σ H b) (h1 : b = true → EvD ta σ H d) (h2 : b = false → EvD tb σ H d) : EvD (tIf t ta tb) σ H d := fun H1 s Q q => h H1 s _ fun H2 s2 => by
  cases b with
  | true => exact h1 rfl H2 (s.trans s2) Q fun v H3 s3 x => q v H3 (s2.trans s3) x
  | false => exact h2 rfl H2 (s.trans s2) Q fun v H3 s3 x => q v H3 (s2.trans s3) x
/-- a OP b OP' c -/
theorem d_chain {r r' : R2} {f : PyData} (ha : EvD ta σ H d) (hb : EvD tb σ H e) (hc : b = true → EvD tc σ H f) (hr : ∀ v w H1, Tp H1 v d → Tp H1 w e → ∀ Q : VK, Q (.bl b) H1 → r v w H1 Q)
    (hr' : b = true → ∀ v w H1, Tp H1 v e → Tp H1 w f → ∀ Q : VK, Q (.bl c) H1 → r' v w H1 Q) : EvD (tChain r r' ta tb tc) σ H (.bool (b && c)) := fun H1 s Q q =>
  ha H1 s _ fun v H2 s2 x => hb H2 (s.trans s2) _ fun w H3 s3 y => hr v w H3 (x.mono s3) y _ ⟨b, rfl, by
    cases b with
    | true =>
      refine hc rfl H3 ((s.trans s2).trans s3) _ fun z H4 s4 t => ?_
      exact hr' rfl w z H4 (y.mono s4) t _ (q _ H4 ((s2.trans s3).trans s4) (.bl c))
    | false => exact q _ H3 (s2.trans s3) (.bl false)⟩
theorem d_leLe {k : Int} (ha : EvD ta σ H (.int i)) (hb : EvD tb σ H (.int j)) (hc : EvD tc σ H (.int k)) : EvD (tChain (rI0 fun i j => .bl (decide (i ≤ j))) (rI0 fun i j => .bl (decide (i ≤ j))) ta tb tc) σ H (.bool (decide (i ≤ j) && decide (j ≤ k))) :=
  d_chain ha hb (fun _ => hc) (fun v w H1 x y Q q => ⟨i, j, tp_int x, tp_int y, q⟩) fun _ v w H1 x y Q q => ⟨j, k, tp_int x, tp_int y, q⟩
theorem d_leLt {k : Int} (ha : EvD ta σ H (.int i)) (hb : EvD tb σ H (.int j)) (hc : EvD tc σ H (.int k)) : EvD (tChain (rI0 fun i j => .bl (decide (i ≤ j))) (rI0 fun i j => .bl (decide (i < j))) ta tb tc) σ H (.bool (decide (i ≤ j) && decide (j < k))) :=
  d_chain ha hb (fun _ => hc) (fun v w H1 x y Q q => ⟨i, j, tp_int x, tp_int y, q⟩) fun _ v w H1 x y Q q => ⟨j, k, tp_int x, tp_int y, q⟩

/-! ### arguments, displays, calls -/
theorem a_nil : EvDs tNil σ H [] := fun H1 _ _ q => q [] H1 (Same.refl _) .nil
theorem a_cons (h : EvD ta σ H d) (hr : EvDs tr σ H ds) : EvDs (tCons ta tr) σ H (d :: ds) := fun H1 s Q q =>
  h H1 s _ fun v H2 s2 x => hr H2 (s.trans s2) _ fun vs H3 s3 y => q (v :: vs) H3 (s2.trans s3) (.cons (x.mono s3) y)
theorem a_star (h : EvD ta σ H (.tuple es)) (hr : EvDs tr σ H ds) : EvDs (StX.tStar K ta tr) σ H (es ++ ds) := fun H1 s Q q =>
  h H1 s _ fun v H2 s2 x => by
    obtain ⟨a, xs, rfl, h1, h2⟩ := tp_tup x
    exact ⟨a, xs, rfl, .inl (sqr h1), hr H2 (s.trans s2) _ fun vs H3 s3 y => q (xs ++ vs) H3 (s2.trans s3) ((h2.mono s3).append y)⟩
theorem d_tup (h : EvDs tr σ H ds) (hz : ds.length ≤ 100000) : EvD (tTup tr) σ H (.tuple ds) := fun H1 s Q q =>
  h H1 s _ fun vs H2 s2 x => ⟨sz (by rw [x.length]; exact hz), fun p hp => q (.ref p) _ (s2.trans (Same.new hp)) (.tup upd_same (x.mono (Same.new hp)))⟩
theorem l_lst (h : EvDs tr σ H ds) (hz : ds.length ≤ 100000) : EvLs (tLst tr) σ H ds := fun H1 s Q q =>
  h H1 s _ fun vs H2 s2 x => ⟨sz (by rw [x.length]; exact hz), fun p hp => q p vs _ (s2.free hp) (s2.trans (Same.new hp)) upd_same (x.mono (Same.new hp))⟩
/-- a promise about data: what is passed, when it may be, what comes back -/
def spD {α : Type} (enc : α → List PyData) (pre : α → Prop) (f : α → PyData) : Sp := fun vs H Q _ => ∃ a : α, TpAll H vs (enc a) ∧ pre a ∧ ∀ v H', Same H H' → Tp H' v (f a) → Q v H'
theorem d_call {α : Type} {enc : α → List PyData} {pre : α → Prop} {f : α → PyData} (a : α) (hp : pre a) (h : EvDs tr σ H (enc a)) : EvD (tCall (spD enc pre f) [] E0 tr) σ H (f a) := fun H1 s Q q =>
  h H1 s _ fun vs H2 s2 x => ⟨a, by rw [List.append_nil]; exact x, hp, fun v H3 s3 y => q v H3 (s2.trans s3) y⟩
/-- len -/
def rLenQ (K : PySem.W.Frag) : List V → Hp → VK → Prop := fun xs H Q => ∃ p ys, xs = [.ref p] ∧ (SqL K H p ys ∨ SqT K H p ys) ∧ Q (.int ys.length) H
theorem d_len (h : EvD ta σ H (.tuple ds)) : EvD (tCB (rLenQ K) (tCons ta tNil)) σ H (.int (ds.length : Int)) := fun H1 s Q q =>
  h H1 s _ fun v H2 s2 x => by
    obtain ⟨a, xs, rfl, h1, h2⟩ := tp_tup x
    refine ⟨a, xs, rfl, .inr (sqr h1), ?_⟩
    rw [h2.length]
    exact q _ H2 s2 (.int _)
/-- abs -/
def rAbsQ : List V → Hp → VK → Prop := fun xs H Q => ∃ i, xs = [.int i] ∧ Q (.int (if i < 0 then -i else i)) H
def iabs (i : Int) : Int := if i < 0 then -i else i
theorem d_abs (h : EvD ta σ H (.int i)) : EvD (tCB rAbsQ (tCons ta tNil)) σ H (.int (iabs i)) := fun H1 s Q q =>
  h H1 s _ fun v H2 s2 x => ⟨i, by rw [tp_int x], q _ H2 s2 (.int _)⟩
def rMin2Q : List V → Hp → VK → Prop := fun xs H Q => ∃ i j, xs = [.int i, .int j] ∧ Q (.int (if j < i then j else i)) H
def rMax2Q : List V → Hp → VK → Prop := fun xs H Q => ∃ i j, xs = [.int i, .int j] ∧ Q (.int (if j > i then j else i)) H
theorem d_min2 (h : EvD ta σ H (.int i)) (h2 : EvD tb σ H (.int j)) : EvD (tCB rMin2Q (tCons ta (tCons tb tNil))) σ H (.int (if j < i then j else i)) := fun H1 s Q q =>
  h H1 s _ fun v H2 s2 x => h2 H2 (s.trans s2) _ fun w H3 s3 y => ⟨i, j, by rw [tp_int x, tp_int y], q _ H3 (s2.trans s3) (.int _)⟩
theorem d_max2 (h : EvD ta σ H (.int i)) (h2 : EvD tb σ H (.int j)) : EvD (tCB rMax2Q (tCons ta (tCons tb tNil))) σ H (.int (if j > i then j else i)) := fun H1 s Q q =>
  h H1 s _ fun v H2 s2 x => h2 H2 (s.trans s2) _ fun w H3 s3 y => ⟨i, j, by rw [tp_int x, tp_int y], q _ H3 (s2.trans s3) (.int _)⟩
/-- int(n) of an int -/
def rIntQ : List V → Hp → VK → Prop := fun xs H Q => (∃ i, xs = [.int i] ∧ Q (.int i) H) ∨ ∃ k, xs = [.bl k] ∧ Q (.int (if k then 1 else 0)) H
theorem d_intOf (h : EvD ta σ H (.int i)) : EvD (tCB rIntQ (tCons ta tNil)) σ H (.int i) := fun H1 s Q q =>
  h H1 s _ fun v H2 s2 x => .inl ⟨i, by rw [tp_int x], q _ H2 s2 (.int _)⟩
/-- isinstance(x, T), T a built-in class -/
def tyD : PyData → String
  | .none => "NoneType" | .bool _ => "bool" | .int _ => "int" | .str _ => "str" | .tuple _ => "tuple" | .list _ => "list" | .dict _ => "dict"
theorem Tp.ty {v : V} : ∀ {d : PyData}, Tp H v d → TyX K H v (.type (tyD d))
  | _, .non => .base .non
  | _, .bl _ => .base (.bl _)
  | _, .int _ => .base (.int _)
  | _, .str _ => .base (.str _)
  | _, .tup h _ => .base (.tup h)
  | _, .fz h _ _ => .fTuple h
  | _, .lz h _ => .base (.frz h)
theorem d_isi {T : String} (h : EvD ta σ H d) (hk : PySem.W.kitOne K (.type (tyD d)) (.type T) = some b) : EvD (tCB (rIsi K) (tCons ta (tCons (tC (.ty T)) tNil))) σ H (.bool b) := fun H1 s Q q =>
  h H1 s _ fun v H2 s2 x => ⟨v, .ty T, .type (tyD d), .type T, b, rfl, .ty T, x.ty, hk, q _ H2 s2 (.bl b)⟩
/-- tuple(a new list) -/
def rTupQ (K : PySem.W.Frag) : List V → Hp → VK → Prop := fun xs H Q => ∃ p ys, xs = [.ref p] ∧ ((SqL K H p ys ∧ ∀ l, H l = none → Q (.ref l) (upd H l (.tup ys))) ∨ (SqT K H p ys ∧ Q (.ref p) H))
theorem d_tupOf (h : EvLv ta σ H ds) : EvD (tCB (rTupQ K) (tCons ta tNil)) σ H (.tuple ds) := fun H1 s Q q =>
  h H1 s _ fun p xs H2 s2 h1 h2 => ⟨p, xs, rfl, .inl ⟨sql h1, fun l hl => q (.ref l) _ (s2.trans (Same.new hl)) (.tup upd_same (h2.mono (Same.new hl)))⟩⟩
/-- all([..]) -/
theorem d_all {bs : List Bool} (h : EvLv ta σ H (bs.map .bool)) : EvD (tCB (rAll K) (tCons ta tNil)) σ H (.bool (bs.all id)) := fun H1 s Q q =>
  h H1 s _ fun p xs H2 s2 h1 h2 => by
    have e : ∀ {xs : List V} {bs : List Bool}, TpAll H2 xs (bs.map .bool) → xs = bs.map V.bl := by
      intro xs bs
      induction bs generalizing xs with
      | nil => intro h; cases h; rfl
      | cons b bs ih =>
        intro h
        cases h with
        | cons h t => rw [tp_bl h, ih t, List.map_cons]
    rw [e h2] at h1
    exact ⟨p, bs, rfl, sql h1, q _ H2 s2 (.bl _)⟩
theorem d_any {bs : List Bool} (h : EvLv ta σ H (bs.map .bool)) : EvD (tCB (rAny K) (tCons ta tNil)) σ H (.bool (bs.any id)) := fun H1 s Q q =>
  h H1 s _ fun p xs H2 s2 h1 h2 => by
    have e : ∀ {xs : List V} {bs : List Bool}, TpAll H2 xs (bs.map .bool) → xs = bs.map V.bl := by
      intro xs bs
      induction bs generalizing xs with
      | nil => intro h; cases h; rfl
      | cons b bs ih =>
        intro h
        cases h with
        | cons h t => rw [tp_bl h, ih t, List.map_cons]
    rw [e h2] at h1
    exact ⟨p, bs, rfl, sql h1, q _ H2 s2 (.bl _)⟩
/-! ### comprehensions -/
def Cv (H : Hp) (ds : List PyData) (f : PyData → Bool) (g : PyData → PyData) (Dl : Addr) (n : Nat) (H' : Hp) : Prop :=
  H Dl = none ∧ Same H H' ∧ ∃ xs, H' Dl = some (.lst xs) ∧ TpAll H' xs (((ds.take n).filter f).map g)
theorem cv_turn {Hs H H' : Hp} {f : PyData → Bool} {g : PyData → PyData} {Dl : Addr} {n : Nat} {σ2 : L2.St} (s : Same Hs H) (p : Cv H ds f g Dl n H') (hd : ds[n]? = some d) (hz : ds.length ≤ 90000) (ht : EvB t σ2 Hs (f d)) (he : f d = true → EvD te σ2 Hs (g d)) :
    t σ2 H' fun b H3 => if b = true then te σ2 H3 fun y H4 => ∃ acc, H4 Dl = some (.lst acc) ∧ acc.length < sizeLine ∧ Cv H ds f g Dl (n + 1) (upd H4 Dl (.lst (acc ++ [y]))) else Cv H ds f g Dl (n + 1) H3 := by
  obtain ⟨p1, p2, xs, p3, p4⟩ := p
  have et : ds.take (n + 1) = ds.take n ++ [d] := by rw [List.take_add_one, hd]; rfl
  refine ht H' (s.trans p2) _ fun H3 s3 => ?_
  cases hf : f d with
  | true =>
    show te σ2 H3 fun y H4 => ∃ acc, H4 Dl = some (.lst acc) ∧ acc.length < sizeLine ∧ Cv H ds f g Dl (n + 1) (upd H4 Dl (.lst (acc ++ [y])))
    refine he hf H3 ((s.trans p2).trans s3) _ fun y H4 s4 hy => ?_
    have lz : xs.length ≤ 90000 := by
      have h1 := p4.length
      have h2 := List.length_filter_le f (ds.take n)
      rw [List.length_map] at h1
      rw [List.length_take] at h2
      omega
    have mu : Ts H4 (upd H4 Dl (.lst (xs ++ [y]))) := fun a u hu ha => by
      have hne : a ≠ Dl := fun e => by
        rw [e, s4 _ _ (s3 _ _ p3)] at ha
        cases ha
        cases hu
      rw [upd_ne hne]
      exact ha
    refine ⟨xs, s4 _ _ (s3 _ _ p3), Nat.lt_of_le_of_lt lz (by decide), p1, Same.mut ((p2.trans s3).trans s4) p1, xs ++ [y], upd_same, ?_⟩
    rw [et, List.filter_append, List.map_append]
    refine (((p4.mono s3).mono s4).mono' mu).append ?_
    rw [List.filter_cons, if_pos hf]
    exact .cons (hy.mono' mu) .nil
  | false =>
    show Cv H ds f g Dl (n + 1) H3
    refine ⟨p1, p2.trans s3, xs, s3 _ _ p3, ?_⟩
    rw [et, List.filter_append, List.filter_cons, if_neg (by rw [hf]; decide)]
    show TpAll H3 xs (List.map g (List.filter f (ds.take n) ++ []))
    rw [List.append_nil]
    exact p4.mono s3
/-- [e for x in t if c], t a tuple of data -/
theorem l_comp {n : Nat} {vs : List Nat} {tl : TE} (f : PyData → Bool) (g : PyData → PyData) (h : EvD tl σ H (.tuple ds)) (hz : ds.length ≤ 90000) (hw : ∀ x, wipe ((wipe σ vs).set n (some x)) vs = wipe σ vs)
    (ht : ∀ d v H1, Same H H1 → d ∈ ds → Tp H1 v d → EvB t ((wipe σ vs).set n (some v)) H1 (f d)) (he : ∀ d v H1, Same H H1 → d ∈ ds → Tp H1 v d → f d = true → EvD te ((wipe σ vs).set n (some v)) H1 (g d)) :
    EvLs (tLc (iTup K tl) (gName n) t te vs) σ H ((ds.filter f).map g) := fun H0 s0 Q q => h H0 s0 _ fun v H1 s1 x => by
  obtain ⟨a, xs, rfl, h1, h2⟩ := tp_tup x
  refine ⟨a, rfl, ⟨xs, sqr h1⟩, fun Dl hD => ?_⟩
  refine lc_it walk_tup (Cv H1 ds f g Dl) ⟨hD, Same.new hD, [], upd_same, .nil⟩ (fun i H' _ p => sqr ((Same.ts p.2.1).rd h1)) (fun i y H2 H' hi p yy => ?_) fun H' p => ?_
  · obtain ⟨rfl, hy⟩ := yy
    obtain ⟨d, hd, hyd⟩ := TpAll.get h2 hy
    have sm := p.2.1
    refine ⟨hw y, cv_turn (Hs := H1) (Same.refl _) p hd hz (ht d y H1 (s0.trans s1) (List.mem_of_getElem? hd) hyd) fun hf => he d y H1 (s0.trans s1) (List.mem_of_getElem? hd) hyd hf⟩
  · obtain ⟨p1, p2, zs, p3, p4⟩ := p
    rw [h2.length, List.take_length] at p4
    exact q Dl zs H' (s1.free p1) (s1.trans p2) p3 p4
/-- .. over a list -/
theorem l_compL {n : Nat} {vs : List Nat} {tl : TE} (f : PyData → Bool) (g : PyData → PyData) (h : EvLv tl σ H ds) (hz : ds.length ≤ 90000) (hw : ∀ x, wipe ((wipe σ vs).set n (some x)) vs = wipe σ vs)
    (ht : ∀ d v H1, Same H H1 → d ∈ ds → Tp H1 v d → EvB t ((wipe σ vs).set n (some v)) H1 (f d)) (he : ∀ d v H1, Same H H1 → d ∈ ds → Tp H1 v d → f d = true → EvD te ((wipe σ vs).set n (some v)) H1 (g d)) :
    EvLs (tLc (iList K tl) (gName n) t te vs) σ H ((ds.filter f).map g) := fun H0 s0 Q q => h H0 s0 _ fun a xs H1 s1 h1 h2 => by
  refine ⟨a, rfl, ⟨xs, sql h1⟩, fun Dl hD => ?_⟩
  refine lc_it walk_list (Cv H1 ds f g Dl) ⟨hD, Same.new hD, [], upd_same, .nil⟩ (fun i H' _ p => sql (p.2.1 _ _ h1)) (fun i y H2 H' hi p yy => ?_) fun H' p => ?_
  · obtain ⟨rfl, hy⟩ := yy
    obtain ⟨d, hd, hyd⟩ := TpAll.get h2 hy
    exact ⟨hw y, cv_turn (Hs := H1) (Same.refl _) p hd hz (ht d y H1 (s0.trans s1) (List.mem_of_getElem? hd) hyd) fun hf => he d y H1 (s0.trans s1) (List.mem_of_getElem? hd) hyd hf⟩
  · obtain ⟨p1, p2, zs, p3, p4⟩ := p
    rw [h2.length, List.take_length] at p4
    exact q Dl zs H' (s1.free p1) (s1.trans p2) p3 p4
end
end Xh

/-! Statements over data; sorted sets; slices. -/
namespace Xh
open PySem PySem.Spec PyProof.Rows L2

section
variable {K : PySem.W.Frag} {σ : L2.St} {H H' : Hp} {ta tb tc te : TE} {t u : TT} {tr : TA} {d e : PyData} {ds es : List PyData} {i j : Nat} {b : Bool} {D : Ends} {tu tw tz : TS} {g : TG}
theorem s_asg (h : EvD te σ H d) (k : ∀ v H1, Same H H1 → Tp H1 v d → D.nx (σ.set i (some v)) H1) : tAsg te (gName i) D σ H := h H (Same.refl _) _ k
theorem q_asg (h : EvD te σ H d) (k : ∀ v H1, Same H H1 → Tp H1 v d → tz D (σ.set i (some v)) H1) : tSeq (tAsg te (gName i)) tz D σ H := s_asg (D := { D with nx := tz D }) h k
/-- a new list -/
theorem q_asgL (h : EvLs te σ H ds) (k : ∀ p xs H1, H p = none → Same H H1 → H1 p = some (.lst xs) → TpAll H1 xs ds → tz D (σ.set i (some (.ref p))) H1) : tSeq (tAsg te (gName i)) tz D σ H := h H (Same.refl _) _ k
theorem s_unpack (h : EvD te σ H (.tuple [d, e])) (k : ∀ v w H1, Same H H1 → Tp H1 v d → Tp H1 w e → D.nx ((σ.set i (some v)).set j (some w)) H1) : tAsg te (gTup K 2 (gCons (gName i) (gCons (gName j) gNil))) D σ H :=
  h H (Same.refl _) _ fun v H1 s x => by
    obtain ⟨a, xs, rfl, h1, h2⟩ := tp_tup x
    obtain ⟨y, z, rfl, hy, hz⟩ := tpAll_two h2
    exact ⟨a, [y, z], rfl, sqr h1, rfl, y, [z], rfl, z, [], rfl, rfl, k y z H1 s hy hz⟩
theorem q_unpack (h : EvD te σ H (.tuple [d, e])) (k : ∀ v w H1, Same H H1 → Tp H1 v d → Tp H1 w e → tz D ((σ.set i (some v)).set j (some w)) H1) : tSeq (tAsg te (gTup K 2 (gCons (gName i) (gCons (gName j) gNil)))) tz D σ H := s_unpack (D := { D with nx := tz D }) h k
theorem s_ret (h : EvD te σ H d) (k : ∀ v H1, Same H H1 → Tp H1 v d → D.rt v H1) : tRet te D σ H := h H (Same.refl _) _ k
theorem s_if (h : EvB t σ H b) (h1 : b = true → ∀ H1, Same H H1 → tu D σ H1) (h2 : b = false → ∀ H1, Same H H1 → tw D σ H1) : tIfS t tu tw D σ H := h H (Same.refl _) _ fun H1 s => by
  cases b with
  | true => exact h1 rfl H1 s
  | false => exact h2 rfl H1 s
theorem q_if (h : EvB t σ H b) (h1 : b = true → ∀ H1, Same H H1 → tu { D with nx := tz D } σ H1) (h2 : b = false → ∀ H1, Same H H1 → tw { D with nx := tz D } σ H1) : tSeq (tIfS t tu tw) tz D σ H := s_if (D := { D with nx := tz D }) h h1 h2
theorem s_when (h : EvB t σ H b) (h1 : b = true → ∀ H1, Same H H1 → tu D σ H1) (h2 : b = false → ∀ H1, Same H H1 → D.nx σ H1) : tIfS t tu tNext D σ H := s_if h h1 h2
theorem q_when (h : EvB t σ H b) (h1 : b = true → ∀ H1, Same H H1 → tu { D with nx := tz D } σ H1) (h2 : b = false → ∀ H1, Same H H1 → tz D σ H1) : tSeq (tIfS t tu tNext) tz D σ H := s_if (D := { D with nx := tz D }) h h1 h2
/-- a test that is known to be false -/
theorem q_skip (h : EvB t σ H false) (h2 : ∀ H1, Same H H1 → tz D σ H1) : tSeq (tIfS t tu tNext) tz D σ H := q_when h (fun z => nomatch z) fun _ => h2
theorem s_skip (h : EvB t σ H false) (h2 : ∀ H1, Same H H1 → D.nx σ H1) : tIfS t tu tNext D σ H := s_when h (fun z => nomatch z) fun _ => h2
theorem q_drop (h : EvD te σ H d) (k : ∀ H1, Same H H1 → tz D σ H1) : tSeq (tDrop te) tz D σ H := h H (Same.refl _) _ fun _ H1 s _ => k H1 s
theorem s_drop (h : EvD te σ H d) (k : ∀ H1, Same H H1 → D.nx σ H1) : tDrop te D σ H := h H (Same.refl _) _ fun _ H1 s _ => k H1 s

/-! ### loops -/
theorem s_forT {tl : TE} (h : EvD tl σ H (.tuple ds)) (k : ∀ H1, Same H H1 → ∃ Pv : Nat → L2.St → Hp → Prop, Pv 0 σ H1 ∧ (∀ i σ' H', i ≤ ds.length → Pv i σ' H' → Ts H1 H') ∧
    (∀ i v d σ' H', ds[i]? = some d → Tp H' v d → Pv i σ' H' → g v σ' H' fun σ2 H2 => tu { D with nx := Pv (i + 1), ct := Pv (i + 1), bk := D.nx } σ2 H2) ∧ ∀ σ' H', Pv ds.length σ' H' → D.nx σ' H') : tFor (iTup K tl) g tu D σ H :=
  h H (Same.refl _) _ fun v H1 s x => by
    obtain ⟨a, xs, rfl, h1, h2⟩ := tp_tup x
    obtain ⟨Pv, h0, ht, hs, hd⟩ := k H1 s
    refine ⟨a, rfl, ⟨xs, sqr h1⟩, ?_⟩
    have hl := h2.length
    refine for_it walk_tup Pv h0 (fun i σ' H' hi p => sqr ((ht i σ' H' (by omega) p).rd h1)) (fun i y σ' H2 H3 hi p yy => ?_) fun σ' H' p => hd σ' H' (by rw [← hl]; exact p)
    obtain ⟨rfl, hy⟩ := yy
    obtain ⟨d, hd', hyd⟩ := h2.get hy
    exact hs i y d σ' _ hd' (hyd.mono' (ht i σ' _ (by omega) p)) p
theorem q_forT {tl : TE} (h : EvD tl σ H (.tuple ds)) (k : ∀ H1, Same H H1 → ∃ Pv : Nat → L2.St → Hp → Prop, Pv 0 σ H1 ∧ (∀ i σ' H', i ≤ ds.length → Pv i σ' H' → Ts H1 H') ∧
    (∀ i v d σ' H', ds[i]? = some d → Tp H' v d → Pv i σ' H' → g v σ' H' fun σ2 H2 => tu { D with nx := Pv (i + 1), ct := Pv (i + 1), bk := tz D } σ2 H2) ∧ ∀ σ' H', Pv ds.length σ' H' → tz D σ' H') : tSeq (tFor (iTup K tl) g tu) tz D σ H :=
  s_forT (D := { D with nx := tz D }) h k
/-- for i, x in enumerate(t) -/
theorem s_forE {tl : TE} (h : EvD tl σ H (.tuple ds)) (k : ∀ H1, Same H H1 → ∃ Pv : Nat → L2.St → Hp → Prop, Pv 0 σ H1 ∧ (∀ n σ' H', n ≤ ds.length → Pv n σ' H' → Ts H1 H') ∧
    (∀ n v d σ' H' H2, ds[n]? = some d → Same H' H2 → Tp H2 v d → Pv n σ' H' → tu { D with nx := Pv (n + 1), ct := Pv (n + 1), bk := D.nx } ((σ'.set i (some (.int (n : Int)))).set j (some v)) H2) ∧ ∀ σ' H', Pv ds.length σ' H' → D.nx σ' H') :
    tFor (iEnumT K (tCons tl tNil)) (gTup K 2 (gCons (gName i) (gCons (gName j) gNil))) tu D σ H :=
  h H (Same.refl _) _ fun v H1 s x => by
    obtain ⟨a, xs, rfl, h1, h2⟩ := tp_tup x
    obtain ⟨Pv, h0, ht, hs, hd⟩ := k H1 s
    refine ⟨a, xs, rfl, sqr h1, ?_⟩
    have hl := h2.length
    refine for_it walk_enumT Pv h0 (fun n σ' H' hi p => sqr ((ht n σ' H' (by omega) p).rd h1)) (fun n y σ' H2 H3 hi p yy => ?_) fun σ' H' p => hd σ' H' (by rw [← hl]; exact p)
    obtain ⟨T, y1, y2, rfl, hT, rfl, e1, e2⟩ := yy
    obtain ⟨d, hd', hyd⟩ := h2.get e2
    have e1' : V.int (n : Int) = y1 := Option.some.inj e1
    subst e1'
    refine ⟨T, [.int (n : Int), y2], rfl, sqt upd_same, rfl, .int (n : Int), [y2], rfl, y2, [], rfl, rfl, ?_⟩
    exact hs n y2 d σ' H2 _ hd' (Same.new hT) ((hyd.mono' (ht n σ' H2 (by omega) p)).mono (Same.new hT)) p
theorem q_forE {tl : TE} (h : EvD tl σ H (.tuple ds)) (k : ∀ H1, Same H H1 → ∃ Pv : Nat → L2.St → Hp → Prop, Pv 0 σ H1 ∧ (∀ n σ' H', n ≤ ds.length → Pv n σ' H' → Ts H1 H') ∧
    (∀ n v d σ' H' H2, ds[n]? = some d → Same H' H2 → Tp H2 v d → Pv n σ' H' → tu { D with nx := Pv (n + 1), ct := Pv (n + 1), bk := tz D } ((σ'.set i (some (.int (n : Int)))).set j (some v)) H2) ∧ ∀ σ' H', Pv ds.length σ' H' → tz D σ' H') :
    tSeq (tFor (iEnumT K (tCons tl tNil)) (gTup K 2 (gCons (gName i) (gCons (gName j) gNil))) tu) tz D σ H := s_forE (D := { D with nx := tz D }) h k
/-- for k in range(n) -/
theorem s_forR {tl : TE} {n : Int} (h : EvD tl σ H (.int n)) (hn : n ≤ 100000 ∧ -100000 ≤ n) (k : ∀ H1, Same H H1 → ∃ Pv : Nat → L2.St → Hp → Prop, Pv 0 σ H1 ∧
    (∀ (i : Nat) σ' H', (i : Int) < n → Pv i σ' H' → tu { D with nx := Pv (i + 1), ct := Pv (i + 1), bk := D.nx } (σ'.set j (some (.int (i : Int)))) H') ∧ ∀ σ' H', Pv n.toNat σ' H' → D.nx σ' H') : tFor (iRng1 (tCons tl tNil)) (gName j) tu D σ H :=
  h H (Same.refl _) _ fun v H1 s x => by
    obtain ⟨Pv, h0, hs, hd⟩ := k H1 s
    refine ⟨n, by rw [tp_int x], by omega, by omega, for_range (lo := 0) (n := n.toNat) Pv h0 (fun i σ' H' hi p => ?_) hd⟩
    have e0 : (0 : Int) + (i : Int) = (i : Int) := Int.zero_add _
    show tu { D with nx := Pv (i + 1), ct := Pv (i + 1), bk := D.nx } (σ'.set j (some (.int ((0 : Int) + (i : Int))))) H'
    rw [e0]
    exact hs i σ' H' (by omega) p
theorem q_forR {tl : TE} {n : Int} (h : EvD tl σ H (.int n)) (hn : n ≤ 100000 ∧ -100000 ≤ n) (k : ∀ H1, Same H H1 → ∃ Pv : Nat → L2.St → Hp → Prop, Pv 0 σ H1 ∧
    (∀ (i : Nat) σ' H', (i : Int) < n → Pv i σ' H' → tu { D with nx := Pv (i + 1), ct := Pv (i + 1), bk := tz D } (σ'.set j (some (.int (i : Int)))) H') ∧ ∀ σ' H', Pv n.toNat σ' H' → tz D σ' H') : tSeq (tFor (iRng1 (tCons tl tNil)) (gName j) tu) tz D σ H :=
  s_forR (D := { D with nx := tz D }) h hn k
end

/-! ### the ascending row of rows -/
/-- strictly ascending -/
def Up (cs : List Row) : Prop := cs.Pairwise (fun x y => HT.lexLt x y = true)
def insR (x : Row) : List Row → List Row
  | [] => [x]
  | y :: ys => if HT.lexLt x y = true then x :: y :: ys else if x = y then y :: ys else y :: insR x ys
/-- the rows that there are, ascending, of alike ones one -/
def norm (cs : List Row) : List Row := cs.foldr insR []
theorem mem_insR {x z : Row} : ∀ {l : List Row}, z ∈ insR x l ↔ z = x ∨ z ∈ l
  | [] => by simp [insR]
  | y :: ys => by
    unfold insR
    by_cases h : HT.lexLt x y = true
    · rw [if_pos h]; simp
    · rw [if_neg h]
      by_cases e : x = y
      · rw [if_pos e]; subst e; simp
      · rw [if_neg e, List.mem_cons, mem_insR]
        simp only [List.mem_cons]
        constructor
        · rintro (h | h | h)
          · exact .inr (.inl h)
          · exact .inl h
          · exact .inr (.inr h)
        · rintro (h | h | h)
          · exact .inr (.inl h)
          · exact .inl h
          · exact .inr (.inr h)
theorem up_insR {x : Row} : ∀ {l : List Row}, Up l → Up (insR x l)
  | [], _ => List.pairwise_singleton _ _
  | y :: ys, h => by
    obtain ⟨h1, h2⟩ := List.pairwise_cons.mp h
    unfold insR
    by_cases hl : HT.lexLt x y = true
    · rw [if_pos hl]
      refine List.pairwise_cons.mpr ⟨fun z hz => ?_, h⟩
      rcases List.mem_cons.mp hz with e | hz
      · rw [e]; exact hl
      · exact lex_trans _ _ _ hl (h1 z hz)
    · rw [if_neg hl]
      by_cases e : x = y
      · rw [if_pos e]; exact h
      · rw [if_neg e]
        refine List.pairwise_cons.mpr ⟨fun z hz => ?_, up_insR h2⟩
        rcases mem_insR.mp hz with e2 | hz
        · rw [e2]
          cases q : HT.lexLt y x with
          | true => rfl
          | false =>
            have hl' : HT.lexLt x y = false := by
              cases q2 : HT.lexLt x y with
              | true => exact absurd q2 hl
              | false => rfl
            exact absurd (lex_tri x y hl' q) e
        · exact h1 z hz
theorem mem_norm {z : Row} : ∀ {l : List Row}, z ∈ norm l ↔ z ∈ l
  | [] => by simp [norm]
  | y :: ys => by
    show z ∈ insR y (norm ys) ↔ _
    rw [mem_insR, mem_norm, List.mem_cons]
theorem up_norm : ∀ l : List Row, Up (norm l)
  | [] => List.Pairwise.nil
  | y :: ys => up_insR (up_norm ys)
/-- there is just one such row -/
theorem up_uniq : ∀ {a b : List Row}, Up a → Up b → (∀ z, z ∈ a ↔ z ∈ b) → a = b
  | [], [], _, _, _ => rfl
  | [], y :: _, _, _, h => absurd ((h y).mpr List.mem_cons_self) (by simp)
  | x :: _, [], _, _, h => absurd ((h x).mp List.mem_cons_self) (by simp)
  | x :: xs, y :: ys, ha, hb, h => by
    obtain ⟨a1, a2⟩ := List.pairwise_cons.mp ha
    obtain ⟨b1, b2⟩ := List.pairwise_cons.mp hb
    have e : x = y := by
      rcases List.mem_cons.mp ((h x).mp List.mem_cons_self) with e | hx
      · exact e
      · rcases List.mem_cons.mp ((h y).mpr List.mem_cons_self) with e | hy
        · exact e.symm
        · have p := a1 y hy
          have q := b1 x hx
          rw [lex_asym _ _ p] at q
          cases q
    subst e
    have irr : ∀ z ∈ xs, z ≠ x := fun z hz e => by
      have p := a1 z hz
      rw [e, lex_irr] at p
      cases p
    have irr' : ∀ z ∈ ys, z ≠ x := fun z hz e => by
      have p := b1 z hz
      rw [e, lex_irr] at p
      cases p
    rw [up_uniq a2 b2 fun z => ⟨fun hz => (List.mem_cons.mp ((h z).mp (List.mem_cons_of_mem _ hz))).resolve_left (irr z hz), fun hz => (List.mem_cons.mp ((h z).mpr (List.mem_cons_of_mem _ hz))).resolve_left (irr' z hz)⟩]
theorem norm_up {l : List Row} (h : Up l) : norm l = l := up_uniq (up_norm l) h fun _ => mem_norm
theorem norm_congr {a b : List Row} (h : ∀ z, z ∈ a ↔ z ∈ b) : norm a = norm b := up_uniq (up_norm a) (up_norm b) fun z => by rw [mem_norm, mem_norm]; exact h z
theorem up_nodup {l : List Row} (h : Up l) : l.Nodup := List.Pairwise.imp (fun {a b} p e => by rw [e, lex_irr] at p; cases p) h
theorem asc_up {L : Rws} (h : Asc L) (hn : (L.map (·.2)).Nodup) : Up (L.map (·.2)) := by
  have h' : (L.map (·.2)).Pairwise (fun x y => HT.lexLt y x = false) := List.pairwise_map.mpr h
  refine List.Pairwise.imp (fun {x y} p => ?_) (List.Pairwise.and h' hn)
  cases q : HT.lexLt x y with
  | true => rfl
  | false => exact absurd (lex_tri x y q p.1) p.2
section
variable {K : PySem.W.Frag} {σ : L2.St} {H : Hp} {te : TE} {P : Program} {w : World}
/-- sorted(set(a list of rows)) -/
theorem l_sortset {cs : List Row} (h : EvLv te σ H (cs.map rowD)) (hz : cs.length < 64) : EvLs (tCB (rSortS K P w) (tCons (tCB (rSetOfT K P w) (tCons te tNil)) tNil)) σ H ((norm cs).map rowD) := fun H1 s Q q =>
  h H1 s _ fun p xs H2 s2 h1 h2 => by
    obtain ⟨L, rfl, e2, h3⟩ := tp_rws h2
    have hL : ∀ {H' : Hp}, Same H2 H' → RwsAt K H' L := fun s p hp => sqt (s _ _ (h3 p hp))
    have hlen : L.length = cs.length := by rw [← e2, List.length_map]
    refine ⟨p, L, rfl, sql h1, hL (Same.refl _), by omega, fun a M ha hM1 hM2 => ?_⟩
    have sa : Same H2 (upd H2 a (SetTO P w a M)) := Same.new ha
    refine ⟨a, M, rfl, upd_same, fun p hp => hL sa p (hM1 p hp), fun M' p' pm nd asc hp' => ?_⟩
    have sp : Same H2 (upd (upd H2 a (SetTO P w a M)) p' (.lst (M'.map fun q => V.ref q.1))) := sa.trans (Same.new hp')
    have hM' : ∀ p ∈ M', (upd (upd H2 a (SetTO P w a M)) p' (.lst (M'.map fun q => V.ref q.1))) p.1 = some (.tup (p.2.map V.int)) := fun p hp => sp _ _ (h3 p (hM1 p (pm.mem_iff.mp hp)))
    have em : M'.map (·.2) = norm cs := by
      refine up_uniq (asc_up asc nd) (up_norm cs) fun z => ?_
      rw [mem_norm, ← e2]
      constructor
      · intro hz
        obtain ⟨p, hp, e⟩ := List.mem_map.mp hz
        exact List.mem_map.mpr ⟨p, hM1 p (pm.mem_iff.mp hp), e⟩
      · intro hz
        obtain ⟨p, hp, e⟩ := List.mem_map.mp hz
        have hq := hM2 p hp
        rw [e] at hq
        obtain ⟨r, hr, er⟩ := List.mem_map.mp hq
        exact List.mem_map.mpr ⟨r, pm.mem_iff.mpr hr, er⟩
    have tp := rws_tp hM'
    rw [em] at tp
    exact q p' _ _ (s2.free (sa.free hp')) (s2.trans sp) upd_same tp
end

/-! ### slices and sums of tuples -/
section
variable {K : PySem.W.Frag} {σ : L2.St} {H : Hp} {ta tb te : TE} {ds es : List PyData} {i : Int}
def EvO (to : TO) (σ : L2.St) (H : Hp) (o : Option Int) : Prop := ∀ H1, Same H H1 → ∀ Q : Option Int → Hp → Prop, (∀ H2, Same H1 H2 → Q o H2) → to σ H1 Q
theorem o_none : EvO tNoPart σ H none := fun H1 _ _ q => q H1 (Same.refl _)
theorem o_some (h : EvD te σ H (.int i)) : EvO (tPart te) σ H (some i) := fun H1 s _ q => h H1 s _ fun v H2 s2 x => ⟨i, tp_int x, q H2 s2⟩
def cutD (ds : List PyData) (lo hi : Option Int) : List PyData := (ds.drop (HT.sIx ds.length 0 lo)).take (HT.sIx ds.length ds.length hi - HT.sIx ds.length 0 lo)
theorem d_slice {tl th : TO} {lo hi : Option Int} (h : EvD te σ H (.tuple ds)) (h1 : EvO tl σ H lo) (h2 : EvO th σ H hi) : EvD (tSl (rSlA K) te tl th) σ H (.tuple (cutD ds lo hi)) := fun H1 s Q q =>
  h H1 s _ fun v H2 s2 x => h1 H2 (s.trans s2) _ fun H3 s3 => h2 H3 ((s.trans s2).trans s3) _ fun H4 s4 => by
    obtain ⟨a, xs, rfl, g1, g2⟩ := tp_tup x
    have g1' := (Same.ts (s3.trans s4)).rd g1
    have x' := x.mono (s3.trans s4)
    have g2' := g2.mono (s3.trans s4)
    have hl := g2.length
    refine ⟨a, xs, rfl, sqr g1', fun hw => ?_, fun hw p hp => ?_⟩
    · refine q _ H4 ((s2.trans s3).trans s4) ?_
      have e : cutD ds lo hi = ds := by
        unfold cutD
        rw [← hl, hw.1, hw.2, List.drop_zero, Nat.sub_zero, hl, List.take_length]
      rw [e]
      exact x'
    · refine q _ _ (((s2.trans s3).trans s4).trans (Same.new hp)) (.tup upd_same ?_)
      unfold cutV cutD
      rw [hl]
      exact ((g2'.drop _).take _).mono (Same.new hp)
theorem d_cat (ha : EvD ta σ H (.tuple ds)) (hb : EvD tb σ H (.tuple es)) (hz : ds.length + es.length ≤ 100000) : EvD (tOp (rCatA K) ta tb) σ H (.tuple (ds ++ es)) :=
  d_op ha hb fun v w H1 _ x y Q q => by
    obtain ⟨a, xs, rfl, g1, g2⟩ := tp_tup x
    obtain ⟨b, ys, rfl, g3, g4⟩ := tp_tup y
    have l1 := g2.length
    have l2 := g4.length
    refine ⟨a, b, xs, ys, rfl, rfl, sqr g1, sqr g3, sz (by omega), fun e => ?_, fun _ e => ?_, fun _ _ p hp => ?_⟩
    · subst e
      cases g2
      exact q _ H1 (Same.refl _) y
    · subst e
      cases g4
      rw [List.append_nil] at q
      exact q _ H1 (Same.refl _) x
    · exact q _ _ (Same.new hp) (.tup upd_same ((g2.append g4).mono (Same.new hp)))
/-- x <= y of rows -/
theorem lexAt_le : ∀ (k : Nat) (ns ms : Row), ns.length ≤ k →
    Ob.lexAt (fun j => decide (ns.getD j 0 = ms.getD j 0)) (fun j => decide (ns.getD j 0 ≤ ms.getD j 0)) (decide (ns.length ≤ ms.length)) 0 (min ns.length ms.length) = !HT.lexLt ms ns := by
  have sh : ∀ (e r : Nat → Bool) (z : Bool) (i k : Nat), Ob.lexAt e r z (i + 1) k = Ob.lexAt (fun j => e (j + 1)) (fun j => r (j + 1)) z i k := by
    intro e r z i k
    induction k generalizing i with
    | zero => rfl
    | succ k ih => rw [Ob.lexAt_succ, Ob.lexAt_succ, ih (i + 1)]
  intro k
  induction k with
  | zero =>
    intro ns ms h
    have : ns = [] := List.eq_nil_of_length_eq_zero (by omega)
    subst this
    cases ms with
    | nil => rfl
    | cons m ms =>
      show Ob.lexAt _ _ (decide (0 ≤ (m :: ms).length)) 0 0 = _
      rw [Ob.lexAt_zero, HT.lexLt_cons_nil, decide_eq_true (Nat.zero_le _)]
      rfl
  | succ k ih =>
    intro ns ms h
    cases ns with
    | nil =>
      cases ms with
      | nil => rfl
      | cons m ms =>
        show Ob.lexAt _ _ (decide (0 ≤ (m :: ms).length)) 0 0 = _
        rw [Ob.lexAt_zero, HT.lexLt_cons_nil, decide_eq_true (Nat.zero_le _)]
        rfl
    | cons n ns =>
      cases ms with
      | nil =>
        show Ob.lexAt _ _ (decide ((n :: ns).length ≤ 0)) 0 0 = _
        rw [Ob.lexAt_zero, HT.lexLt_nil_cons, decide_eq_false (by simp)]
        rfl
      | cons m ms =>
        have hmin : min (n :: ns).length (m :: ms).length = min ns.length ms.length + 1 := by
          rw [List.length_cons, List.length_cons]
          omega
        have hlen : decide ((n :: ns).length ≤ (m :: ms).length) = decide (ns.length ≤ ms.length) := by
          refine decide_eq_decide.mpr ?_
          rw [List.length_cons, List.length_cons]
          omega
        rw [hmin, hlen, Ob.lexAt_succ, HT.lexLt_cons]
        by_cases e : n = m
        · subst e
          rw [if_pos (by simp), if_pos rfl, sh]
          exact ih ns ms (by rw [List.length_cons] at h; omega)
        · rw [if_neg (by simp [e]), if_neg (fun z => e z.symm)]
          show decide (n ≤ m) = !decide (m < n)
          by_cases l : n ≤ m
          · rw [decide_eq_true l, decide_eq_false (by omega)]; rfl
          · rw [decide_eq_false l, decide_eq_true (by omega)]; rfl
theorem d_leR {x y : Row} (ha : EvD ta σ H (rowD x)) (hb : EvD tb σ H (rowD y)) : EvD (tOp (rLeT K) ta tb) σ H (.bool (!HT.lexLt y x)) :=
  d_op ha hb fun v w H1 _ h1 h2 Q q => by
    obtain ⟨a, rfl, g1⟩ := tp_row h1
    obtain ⟨b, rfl, g2⟩ := tp_row h2
    refine ⟨a, b, x, y, rfl, rfl, sqt g1, sqt g2, ?_⟩
    rw [lexAt_le x.length x y (Nat.le_refl _)]
    exact q _ H1 (Same.refl _) (.bl _)
end
end Xh

/-! Comprehensions over rows and ints. -/
namespace Xh
open PySem PySem.Spec PyProof.Rows L2
def unInt : PyData → Int
  | .int i => i
  | _ => 0
def unRow : PyData → Row
  | .tuple ds => ds.map unInt
  | _ => []
theorem unRow_row (c : Row) : unRow (rowD c) = c := by
  show (c.map PyData.int).map unInt = c
  rw [List.map_map]
  exact (List.map_congr_left fun _ _ => rfl).trans (List.map_id c)
theorem comp_rows (f : Row → Bool) (g : Row → PyData) (cs : List Row) : (((cs.map rowD).filter fun d => f (unRow d)).map fun d => g (unRow d)) = (cs.filter f).map g := by
  rw [List.filter_map, List.map_map]
  have e : ((fun d => f (unRow d)) ∘ rowD) = f := funext fun c => by show f (unRow (rowD c)) = f c; rw [unRow_row]
  rw [e]
  exact List.map_congr_left fun c _ => by show g (unRow (rowD c)) = g c; rw [unRow_row]
theorem comp_ints (f : Int → Bool) (g : Int → PyData) (ns : Row) : (((ns.map PyData.int).filter fun d => f (unInt d)).map fun d => g (unInt d)) = (ns.filter f).map g := by
  rw [List.filter_map, List.map_map]
  rfl
section
variable {K : PySem.W.Frag} {σ : L2.St} {H : Hp} {te : TE} {t : TT} {cs : List Row} {ns : Row}
theorem l_compRs {n : Nat} {vs : List Nat} {tl : TE} (f : Row → Bool) (g : Row → PyData) (h : EvD tl σ H (rowsD cs)) (hz : cs.length ≤ 90000) (hw : ∀ x, wipe ((wipe σ vs).set n (some x)) vs = wipe σ vs)
    (ht : ∀ c v H1, Same H H1 → c ∈ cs → Tp H1 v (rowD c) → EvB t ((wipe σ vs).set n (some v)) H1 (f c)) (he : ∀ c v H1, Same H H1 → c ∈ cs → Tp H1 v (rowD c) → f c = true → EvD te ((wipe σ vs).set n (some v)) H1 (g c)) :
    EvLs (tLc (iTup K tl) (gName n) t te vs) σ H ((cs.filter f).map g) := by
  refine EvLs.is (l_comp (fun d => f (unRow d)) (fun d => g (unRow d)) h (by rw [List.length_map]; exact hz) hw (fun d v H1 s m x => ?_) fun d v H1 s m x hf => ?_) (comp_rows f g cs)
  · obtain ⟨c, hc, rfl⟩ := List.mem_map.mp m
    rw [unRow_row]
    exact ht c v H1 s hc x
  · obtain ⟨c, hc, rfl⟩ := List.mem_map.mp m
    rw [unRow_row] at hf ⊢
    exact he c v H1 s hc x hf
theorem l_compRsL {n : Nat} {vs : List Nat} {tl : TE} (f : Row → Bool) (g : Row → PyData) (h : EvLv tl σ H (cs.map rowD)) (hz : cs.length ≤ 90000) (hw : ∀ x, wipe ((wipe σ vs).set n (some x)) vs = wipe σ vs)
    (ht : ∀ c v H1, Same H H1 → c ∈ cs → Tp H1 v (rowD c) → EvB t ((wipe σ vs).set n (some v)) H1 (f c)) (he : ∀ c v H1, Same H H1 → c ∈ cs → Tp H1 v (rowD c) → f c = true → EvD te ((wipe σ vs).set n (some v)) H1 (g c)) :
    EvLs (tLc (iList K tl) (gName n) t te vs) σ H ((cs.filter f).map g) := by
  refine EvLs.is (l_compL (fun d => f (unRow d)) (fun d => g (unRow d)) h (by rw [List.length_map]; exact hz) hw (fun d v H1 s m x => ?_) fun d v H1 s m x hf => ?_) (comp_rows f g cs)
  · obtain ⟨c, hc, rfl⟩ := List.mem_map.mp m
    rw [unRow_row]
    exact ht c v H1 s hc x
  · obtain ⟨c, hc, rfl⟩ := List.mem_map.mp m
    rw [unRow_row] at hf ⊢
    exact he c v H1 s hc x hf
theorem l_compI {n : Nat} {vs : List Nat} {tl : TE} (f : Int → Bool) (g : Int → PyData) (h : EvD tl σ H (rowD ns)) (hz : ns.length ≤ 90000) (hw : ∀ x, wipe ((wipe σ vs).set n (some x)) vs = wipe σ vs)
    (ht : ∀ c v H1, Same H H1 → c ∈ ns → v = .int c → EvB t ((wipe σ vs).set n (some v)) H1 (f c)) (he : ∀ c v H1, Same H H1 → c ∈ ns → v = .int c → f c = true → EvD te ((wipe σ vs).set n (some v)) H1 (g c)) :
    EvLs (tLc (iTup K tl) (gName n) t te vs) σ H ((ns.filter f).map g) := by
  refine EvLs.is (l_comp (fun d => f (unInt d)) (fun d => g (unInt d)) h (by rw [List.length_map]; exact hz) hw (fun d v H1 s m x => ?_) fun d v H1 s m x hf => ?_) (comp_ints f g ns)
  · obtain ⟨c, hc, rfl⟩ := List.mem_map.mp m
    exact ht c v H1 s hc (tp_int x)
  · obtain ⟨c, hc, rfl⟩ := List.mem_map.mp m
    exact he c v H1 s hc (tp_int x) hf
theorem l_compIL {n : Nat} {vs : List Nat} {tl : TE} (f : Int → Bool) (g : Int → PyData) (h : EvLv tl σ H (ns.map .int)) (hz : ns.length ≤ 90000) (hw : ∀ x, wipe ((wipe σ vs).set n (some x)) vs = wipe σ vs)
    (ht : ∀ c v H1, Same H H1 → c ∈ ns → v = .int c → EvB t ((wipe σ vs).set n (some v)) H1 (f c)) (he : ∀ c v H1, Same H H1 → c ∈ ns → v = .int c → f c = true → EvD te ((wipe σ vs).set n (some v)) H1 (g c)) :
    EvLs (tLc (iList K tl) (gName n) t te vs) σ H ((ns.filter f).map g) := by
  refine EvLs.is (l_compL (fun d => f (unInt d)) (fun d => g (unInt d)) h (by rw [List.length_map]; exact hz) hw (fun d v H1 s m x => ?_) fun d v H1 s m x hf => ?_) (comp_ints f g ns)
  · obtain ⟨c, hc, rfl⟩ := List.mem_map.mp m
    exact ht c v H1 s hc (tp_int x)
  · obtain ⟨c, hc, rfl⟩ := List.mem_map.mp m
    exact he c v H1 s hc (tp_int x) hf
end
end Xh

/-! The program's forms and bundles: each def's promise. -/
namespace Xh
open PySem PySem.Spec PyProof.Rows L2
def topS (i : Nat) : Stmt := PySem.Challenge.pw_idleclauses_k01_whole_bundles.main.body.getD i (.Pass ⟨0, 0, 0, 0⟩)
structure Blt (mg : Str → Option Value) : Prop where
  isinstance : mg "isinstance" = none
  len : mg "len" = none
  range : mg "range" = none
  sorted : mg "sorted" = none
  tuple : mg "tuple" = none
  list : mg "list" = none
  set : mg "set" = none
  dict : mg "dict" = none
  int : mg "int" = none
  bool : mg "bool" = none
  abs : mg "abs" = none
  min : mg "min" = none
  max : mg "max" = none
  all : mg "all" = none
  enumerate : mg "enumerate" = none
structure Cst (mg : Str → Option Value) (t1 t2 : Tok) : Prop where
  MOST_NAMES : mg "MOST_NAMES" = some (.int 7 t1)
  MOST_CLAUSES : mg "MOST_CLAUSES" = some (.int 16 t2)

/-! ### what they reckon -/
def isInt : PyData → Bool
  | .int _ => true
  | _ => false
def isTup : PyData → Bool
  | .tuple _ => true
  | _ => false
def litB (n l : Int) : Bool := decide (1 ≤ iabs l) && decide (iabs l ≤ n)
def litD (n : Int) : PyData → Bool
  | .int l => litB n l
  | _ => false
def okD (n : Int) : Int → List PyData → Bool
  | _, [] => true
  | last, d :: ds => match d with
    | .int l => litB n l && !decide (iabs l ≤ last) && okD n (iabs l) ds
    | _ => false
def rowDB (n : Int) : PyData → Bool
  | .tuple ds => okD n 0 ds
  | _ => false
def sizeD : PyData → Nat
  | .tuple ds => ds.length
  | _ => 0
theorem kit_int {K : PySem.W.Frag} : ∀ d : PyData, PySem.W.kitOne K (.type (tyD d)) (.type "int") = some (match d with | .int _ => true | .bool _ => true | _ => false)
  | .none => kit_ty (a := "NoneType") (r := false) (by decide +kernel)
  | .bool _ => kit_ty (a := "bool") (r := true) (by decide +kernel)
  | .int _ => kit_ty (a := "int") (r := true) (by decide +kernel)
  | .str _ => kit_ty (a := "str") (r := false) (by decide +kernel)
  | .list _ => kit_ty (a := "list") (r := false) (by decide +kernel)
  | .tuple _ => kit_ty (a := "tuple") (r := false) (by decide +kernel)
  | .dict _ => kit_ty (a := "dict") (r := false) (by decide +kernel)
theorem kit_bool {K : PySem.W.Frag} : ∀ d : PyData, PySem.W.kitOne K (.type (tyD d)) (.type "bool") = some (match d with | .bool _ => true | _ => false)
  | .none => kit_ty (a := "NoneType") (r := false) (by decide +kernel)
  | .bool _ => kit_ty (a := "bool") (r := true) (by decide +kernel)
  | .int _ => kit_ty (a := "int") (r := false) (by decide +kernel)
  | .str _ => kit_ty (a := "str") (r := false) (by decide +kernel)
  | .list _ => kit_ty (a := "list") (r := false) (by decide +kernel)
  | .tuple _ => kit_ty (a := "tuple") (r := false) (by decide +kernel)
  | .dict _ => kit_ty (a := "dict") (r := false) (by decide +kernel)
theorem kit_tuple {K : PySem.W.Frag} : ∀ d : PyData, PySem.W.kitOne K (.type (tyD d)) (.type "tuple") = some (isTup d)
  | .none => kit_ty (a := "NoneType") (r := false) (by decide +kernel)
  | .bool _ => kit_ty (a := "bool") (r := false) (by decide +kernel)
  | .int _ => kit_ty (a := "int") (r := false) (by decide +kernel)
  | .str _ => kit_ty (a := "str") (r := false) (by decide +kernel)
  | .list _ => kit_ty (a := "list") (r := false) (by decide +kernel)
  | .tuple _ => kit_ty (a := "tuple") (r := true) (by decide +kernel)
  | .dict _ => kit_ty (a := "dict") (r := false) (by decide +kernel)

section
variable {P : Program} {w : World} {K : PySem.W.Frag} {mg : Str → Option Value} {base : Heap} {t1 t2 : Tok}
abbrev sis_integer : Stmt := topS 10
abbrev Nis_integer : List Str := ["thing"]
theorem scis_integer : FnScope Nis_integer ["thing"] (defScope sis_integer) := ⟨rfl, rfl, rfl, by decide +kernel, rfl, by decide +kernel, by decide +kernel⟩
-- is_integer: {0: 'thing'}
abbrev spis_integer : Sp := spD (fun d : PyData => [d]) (fun _ => True) (fun d => .bool (isInt d))
theorem okis_integer (D : Def K mg "is_integer" sis_integer ["thing"]) (B : Blt mg) : Fn P w K mg base 1 "is_integer" ["thing"] spis_integer := by
  refine D.ok scis_integer (fun vs H Q E h => ?_) (fun f cdv A outer s H vs Q E hr h => ?_)
  · obtain ⟨a, t, _⟩ := h
    exact t.length
  · obtain ⟨d, t, _, q⟩ := h
    obtain ⟨v, rfl, tv⟩ := tpAll_one t
    refine ⟨_, (pss_one (ps_ret (pe_and (pe_callB (r := rIsi K) call_isi rfl B.isinstance (by decide +kernel) (pa_cons (pv 0) (pa_cons (pe_bltn (v := .ty "int") (u := .type "int") rfl B.int (by decide +kernel) rfl) pa_nil))) (pe_one (pe_not (pe_callB (r := rIsi K) call_isi rfl B.isinstance (by decide +kernel) (pa_cons (pv 0) (pa_cons (pe_bltn (v := .ty "bool") (u := .type "bool") rfl B.bool (by decide +kernel) rfl) pa_nil)))))))), ?_⟩
    refine s_ret (EvD.is (d_and (d_isi (d_var rfl tv) (kit_int d)) fun _ => d_not (d_isi (d_var rfl tv) (kit_bool d))) ?_) q
    cases d <;> rfl
abbrev sis_names : Stmt := topS 11
abbrev Nis_names : List Str := ["thing"]
theorem scis_names : FnScope Nis_names ["thing"] (defScope sis_names) := ⟨rfl, rfl, rfl, by decide +kernel, rfl, by decide +kernel, by decide +kernel⟩
-- is_names: {0: 'thing'}
abbrev spis_names : Sp := spD (fun d : PyData => [d]) (fun d => isInt d = true) (fun d => match d with | .int i => .bool (decide (1 ≤ i) && decide (i ≤ 7)) | _ => .bool false)
theorem okis_names (D : Def K mg "is_names" sis_names ["thing"]) (B : Blt mg) (C : Cst mg t1 t2) (Fis_integer : Fn P w K mg base 1 "is_integer" ["thing"] spis_integer) : Fn P w K mg base 2 "is_names" ["thing"] spis_names := by
  refine D.ok scis_names (fun vs H Q E h => ?_) (fun f cdv A outer s H vs Q E hr h => ?_)
  · obtain ⟨a, t, _⟩ := h
    exact t.length
  · obtain ⟨d, t, hd, q⟩ := h
    obtain ⟨v, rfl, tv⟩ := tpAll_one t
    refine ⟨_, (pss_one (ps_ret (pe_and (pe_fn (Fis_integer.mono (by decide)) hr (pa_cons (pv 0) pa_nil)) (pe_one (pe_chain op_le op_le pe_int (pv 0) (pe_glob (v := .int 7) rfl C.MOST_NAMES ⟨_, rfl⟩)))))), ?_⟩
    cases d with
    | int i => exact s_ret (EvD.is (d_and (d_call (.int i) trivial (a_cons (d_var rfl tv) a_nil)) fun _ => d_leLe d_int (d_var rfl tv) d_int) (by rfl)) q
    | _ => cases hd
abbrev sis_literal : Stmt := topS 12
abbrev Nis_literal : List Str := ["names", "thing"]
theorem scis_literal : FnScope Nis_literal ["names", "thing"] (defScope sis_literal) := ⟨rfl, rfl, rfl, by decide +kernel, rfl, by decide +kernel, by decide +kernel⟩
-- is_literal: {0: 'names', 1: 'thing'}
abbrev spis_literal : Sp := spD (fun a : Int × PyData => [.int a.1, a.2]) (fun _ => True) (fun a => .bool (litD a.1 a.2))
theorem okis_literal (D : Def K mg "is_literal" sis_literal ["names", "thing"]) (B : Blt mg) (Fis_integer : Fn P w K mg base 1 "is_integer" ["thing"] spis_integer) : Fn P w K mg base 2 "is_literal" ["names", "thing"] spis_literal := by
  refine D.ok scis_literal (fun vs H Q E h => ?_) (fun f cdv A outer s H vs Q E hr h => ?_)
  · obtain ⟨a, t, _⟩ := h
    exact t.length
  · obtain ⟨⟨n, d⟩, t, hd, q⟩ := h
    obtain ⟨v, x, rfl, tv, tx⟩ := tpAll_two t
    refine ⟨_, (pss_one (ps_ret (pe_and (pe_fn (Fis_integer.mono (by decide)) hr (pa_cons (pv 1) pa_nil)) (pe_one (pe_chain op_le op_le pe_int (pe_callB call_abs rfl B.abs (by decide +kernel) (pa_cons (pv 1) pa_nil)) (pv 0)))))), ?_⟩
    have h1 := d_call (σ := start Nis_literal [v, x]) (H := H) (enc := fun d : PyData => [d]) (pre := fun _ => True) (f := fun d => .bool (isInt d)) d trivial (a_cons (d_var (n := 1) rfl tx) a_nil)
    cases hd : isInt d with
    | true =>
      cases d with
      | int i => exact s_ret (EvD.is (d_and h1 fun _ => d_leLe d_int (d_abs (d_var rfl tx)) (d_var rfl tv)) (by rfl)) q
      | _ => cases hd
    | false =>
      rw [hd] at h1
      refine s_ret (EvD.is (d_and (c := false) h1 fun z => nomatch z) ?_) q
      cases d <;> first | rfl | cases hd
abbrev sis_literal_row : Stmt := topS 13
abbrev Nis_literal_row : List Str := ["names", "thing", "last", "literal"]
theorem scis_literal_row : FnScope Nis_literal_row ["names", "thing"] (defScope sis_literal_row) := ⟨rfl, rfl, rfl, by decide +kernel, rfl, by decide +kernel, by decide +kernel⟩
-- is_literal_row: {0: 'names', 1: 'thing', 2: 'last', 3: 'literal'}
abbrev spis_literal_row : Sp := spD (fun a : Int × PyData => [.int a.1, a.2]) (fun _ => True) (fun a => .bool (rowDB a.1 a.2))
theorem okis_literal_row (D : Def K mg "is_literal_row" sis_literal_row ["names", "thing"]) (B : Blt mg) (Fis_literal : Fn P w K mg base 2 "is_literal" ["names", "thing"] spis_literal) : Fn P w K mg base 3 "is_literal_row" ["names", "thing"] spis_literal_row := by
  refine D.ok scis_literal_row (fun vs H Q E h => ?_) (fun f cdv A outer s H vs Q E hr h => ?_)
  · obtain ⟨a, t, _⟩ := h
    exact t.length
  · obtain ⟨⟨n, d⟩, t, hd, q⟩ := h
    obtain ⟨v, x, rfl, tv, tx⟩ := tpAll_two t
    refine ⟨_, (pss_cons (ps_if (pt_not (pt_val (pe_callB (r := rIsi K) call_isi rfl B.isinstance (by decide +kernel) (pa_cons (pv 1) (pa_cons (pe_bltn (v := .ty "tuple") (u := .type "tuple") rfl B.tuple (by decide +kernel) rfl) pa_nil))))) (pss_one (ps_ret pe_bl)) pss_nil)
      (pss_cons (ps_set (i := 2) scis_literal_row.nd rfl (Or.inl rfl) pe_int)
      (pss_cons (ps_for (passes_of rfl) rfl (pi_tup (pv 1)) (pg_name (i := 3) scis_literal_row.nd rfl (Or.inl rfl)) (pss_cons (ps_if (PW.pt (pw_or (pt_not (pt_val (pe_fn (Fis_literal.mono (by decide)) hr (pa_cons (pv 0) (pa_cons (pv 3) pa_nil))))) (pw_or1 (pt_cmpR op_le (pe_callB call_abs rfl B.abs (by decide +kernel) (pa_cons (pv 3) pa_nil)) (pv 2) (nomark _))))) (pss_one (ps_ret pe_bl)) pss_nil)
      (pss_one (ps_set (i := 2) scis_literal_row.nd rfl (Or.inl rfl) (pe_callB call_abs rfl B.abs (by decide +kernel) (pa_cons (pv 3) pa_nil))))))
      (pss_one (ps_ret pe_bl))))), ?_⟩
    refine q_when (b_not (b_val (d_isi (d_var rfl tx) (kit_tuple d)))) (fun hb H1 s1 => ?_) (fun hb H1 s1 => ?_)
    · refine s_ret d_bl fun y H2 s2 ty => q y H2 (s1.trans s2) ?_
      show Tp H2 y (.bool (rowDB n d))
      have e : rowDB n d = false := by
        cases d <;> first | rfl | cases hb
      rw [e]
      exact ty
    · cases d with
      | tuple ds =>
        refine q_asg d_int fun y H2 s2 ty => ?_
        rw [tp_int ty]
        have tv2 := (tv.mono s1).mono s2
        have tx2 := (tx.mono s1).mono s2
        refine q_forT (d_var rfl tx2) fun H3 s3 => ⟨fun i σ' H' => ∃ last y, σ' = [some v, some x, some (.int last), y] ∧ Same H H' ∧ Same H3 H' ∧ okD n 0 ds = okD n last (ds.drop i), ⟨0, none, rfl, (s1.trans s2).trans s3, Same.refl _, rfl⟩, fun i σ' H' _ p => ?_, fun i z d σ' H' hi tz p => ?_, fun σ' H' p => ?_⟩
        · obtain ⟨_, _, _, _, s, _⟩ := p
          exact Same.ts s
        · obtain ⟨last, y, rfl, s4, s5, e⟩ := p
          have ed : ds.drop i = d :: ds.drop (i + 1) := by
            obtain ⟨hi', hd'⟩ := List.getElem?_eq_some_iff.mp hi
            rw [List.drop_eq_getElem_cons hi', hd']
          rw [ed] at e
          have tv4 := tv.mono s4
          have h1 : EvD (tCall spis_literal [] E0 (tCons (tVar 0) (tCons (tVar 3) tNil))) [some v, some x, some (.int last), some z] H' (.bool (litD n d)) :=
            d_call (n, d) trivial (a_cons (d_var rfl tv4) (a_cons (d_var rfl tz) a_nil))
          refine q_when (b := !(litD n d) || (match d with | .int l => decide (iabs l ≤ last) | _ => false)) (b_or (b_not (b_val h1)) fun hb => ?_) (fun hb H5 s6 => ?_) (fun hb H5 s6 => ?_)
          · cases d with
            | int l => exact b_test (d_le (d_abs (d_var rfl tz)) (d_var rfl (.int last)))
            | _ => cases hb
          · refine s_ret d_bl fun y H6 s7 ty => q y H6 ((s4.trans s6).trans s7) ?_
            show Tp H6 y (.bool (okD n 0 ds))
            have e2 : okD n 0 ds = false := by
              rw [e]
              cases d with
              | int l =>
                have hb' : (!(litB n l) || decide (iabs l ≤ last)) = true := hb
                show (litB n l && !decide (iabs l ≤ last) && okD n (iabs l) (ds.drop (i + 1))) = false
                generalize litB n l = b1 at hb' ⊢
                generalize decide (iabs l ≤ last) = b2 at hb' ⊢
                cases b1 <;> cases b2 <;> first | rfl | cases hb'
              | _ => rfl
            rw [e2]
            exact ty
          · cases d with
            | int l =>
              refine s_asg (d_abs (d_var rfl (tz.mono s6))) fun y H6 s7 ty => ?_
              rw [tp_int ty]
              refine ⟨iabs l, some z, rfl, (s4.trans s6).trans s7, (s5.trans s6).trans s7, ?_⟩
              rw [e]
              have hb' : (!(litB n l) || decide (iabs l ≤ last)) = false := hb
              show (litB n l && !decide (iabs l ≤ last) && okD n (iabs l) (ds.drop (i + 1))) = _
              generalize litB n l = b1 at hb' ⊢
              generalize decide (iabs l ≤ last) = b2 at hb' ⊢
              cases b1 <;> cases b2 <;> first | rfl | cases hb'
            | _ => cases hb
        · obtain ⟨last, y, rfl, s4, s5, e⟩ := p
          rw [List.drop_length] at e
          refine s_ret d_bl fun y H6 s7 ty => q y H6 (s4.trans s7) ?_
          show Tp H6 y (.bool (okD n 0 ds))
          rw [e]
          exact ty
      | _ => cases hb
abbrev sis_lot : Stmt := topS 14
abbrev Nis_lot : List Str := ["names", "thing", "name"]
theorem scis_lot : FnScope Nis_lot ["names", "thing"] (defScope sis_lot) := ⟨rfl, rfl, rfl, by decide +kernel, rfl, by decide +kernel, by decide +kernel⟩
-- is_lot: {0: 'names', 1: 'thing', 2: 'name'}
def posB : PyData → Bool
  | .int i => decide (0 < i)
  | _ => false
def lotDB (n : Int) (d : PyData) : Bool := rowDB n d && (match d with | .tuple ds => ds.all posB | _ => false)
theorem okD_int {n : Int} : ∀ {ds : List PyData} {last : Int}, okD n last ds = true → ∀ d ∈ ds, ∃ l, d = .int l
  | [], _, _, d, hd => by simp at hd
  | d :: ds, last, h, e, he => by
    cases d with
    | int l =>
      have h : (litB n l && !decide (iabs l ≤ last) && okD n (iabs l) ds) = true := h
      rw [Bool.and_eq_true] at h
      rcases List.mem_cons.mp he with q | q
      · exact ⟨l, q⟩
      · exact okD_int h.2 e q
    | _ => cases h
abbrev spis_lot : Sp := spD (fun a : Int × PyData => [.int a.1, a.2]) (fun a => sizeD a.2 ≤ 1000) (fun a => .bool (lotDB a.1 a.2))
theorem okis_lot (D : Def K mg "is_lot" sis_lot ["names", "thing"]) (B : Blt mg) (Fis_literal_row : Fn P w K mg base 3 "is_literal_row" ["names", "thing"] spis_literal_row) : Fn P w K mg base 4 "is_lot" ["names", "thing"] spis_lot := by
  refine D.ok scis_lot (fun vs H Q E h => ?_) (fun f cdv A outer s H vs Q E hr h => ?_)
  · obtain ⟨a, t, _⟩ := h
    exact t.length
  · obtain ⟨⟨n, d⟩, t, hd, q⟩ := h
    obtain ⟨v, x, rfl, tv, tx⟩ := tpAll_two t
    refine ⟨_, (pss_one (ps_ret (pe_and (pe_fn (Fis_literal_row.mono (by decide)) hr (pa_cons (pv 0) (pa_cons (pv 1) pa_nil))) (pe_one (pe_callB (r := rAll K) (cr_all rfl) rfl B.all (by decide +kernel) (pa_cons (pe_lc (own := [("name", 2)]) (g := gName 2) (tt := tYes) rfl scis_lot.nd (pi_tup (pv 1)) (blkOk_by (N := Nis_lot) (sc := defScope sis_lot) (by decide +kernel)) (fun _ _ _ _ _ => pg_name (i := 2) scis_lot.nd rfl (Or.inl rfl)) (fun _ _ _ _ _ => pts_nil) (fun _ _ _ _ _ => (pe_cmpR op_gt (pv 2) pe_int (nomark _)))) pa_nil)))))), ?_⟩
    refine s_ret (d_and (d_call (n, d) trivial (a_cons (d_var rfl tv) (a_cons (d_var rfl tx) a_nil))) fun hb => ?_) q
    cases d with
    | tuple ds =>
      have hb : okD n 0 ds = true := hb
      have hint := okD_int hb
      refine d_all (bs := ds.map posB) (EvLv.is (EvLs.v (l_comp (fun _ => true) (fun d => .bool (posB d)) (d_var rfl tx) (Nat.le_trans hd (by decide)) (fun _ => rfl) (fun _ _ _ _ _ _ => b_yes) fun d z H1 s1 hm tz _ => ?_)) ?_) |>.is ?_
      · obtain ⟨l, rfl⟩ := hint d hm
        exact d_gt (d_var rfl tz) d_int
      · rw [List.filter_eq_self.mpr (fun _ _ => rfl), List.map_map]
        rfl
      · show PyData.bool ((ds.map posB).all id) = .bool (ds.all posB)
        rw [List.all_map]
        rfl
    | _ => cases hb
abbrev sis_index : Stmt := topS 15
abbrev Nis_index : List Str := ["many", "thing"]
theorem scis_index : FnScope Nis_index ["many", "thing"] (defScope sis_index) := ⟨rfl, rfl, rfl, by decide +kernel, rfl, by decide +kernel, by decide +kernel⟩
-- is_index: {0: 'many', 1: 'thing'}
abbrev spis_index : Sp := spD (fun a : Int × PyData => [.int a.1, a.2]) (fun _ => True) (fun a => .bool (match a.2 with | .int i => decide (0 ≤ i) && decide (i < a.1) | _ => false))
theorem okis_index (D : Def K mg "is_index" sis_index ["many", "thing"]) (B : Blt mg) (Fis_integer : Fn P w K mg base 1 "is_integer" ["thing"] spis_integer) : Fn P w K mg base 2 "is_index" ["many", "thing"] spis_index := by
  refine D.ok scis_index (fun vs H Q E h => ?_) (fun f cdv A outer s H vs Q E hr h => ?_)
  · obtain ⟨a, t, _⟩ := h
    exact t.length
  · obtain ⟨⟨n, d⟩, t, hd, q⟩ := h
    obtain ⟨v, x, rfl, tv, tx⟩ := tpAll_two t
    refine ⟨_, (pss_one (ps_ret (pe_and (pe_fn (Fis_integer.mono (by decide)) hr (pa_cons (pv 1) pa_nil)) (pe_one (pe_chain op_le op_lt pe_int (pv 1) (pv 0)))))), ?_⟩
    have h1 : EvD (tCall spis_integer [] E0 (tCons (tVar 1) tNil)) (start Nis_index [v, x]) H (.bool (isInt d)) := d_call d trivial (a_cons (d_var (n := 1) rfl tx) a_nil)
    cases hd : isInt d with
    | true =>
      rw [hd] at h1
      cases d with
      | int i => exact s_ret (EvD.is (d_and h1 fun _ => d_leLt d_int (d_var rfl tx) (d_var rfl tv)) (by rfl)) q
      | _ => cases hd
    | false =>
      rw [hd] at h1
      refine s_ret (EvD.is (d_and (c := false) h1 fun z => nomatch z) ?_) q
      cases d <;> first | rfl | cases hd
abbrev sis_pair : Stmt := topS 16
abbrev Nis_pair : List Str := ["thing"]
theorem scis_pair : FnScope Nis_pair ["thing"] (defScope sis_pair) := ⟨rfl, rfl, rfl, by decide +kernel, rfl, by decide +kernel, by decide +kernel⟩
-- is_pair: {0: 'thing'}
def pairB : PyData → Bool
  | .tuple ds => decide ((ds.length : Int) = 2)
  | _ => false
abbrev spis_pair : Sp := spD (fun d : PyData => [d]) (fun _ => True) (fun d => .bool (pairB d))
theorem okis_pair (D : Def K mg "is_pair" sis_pair ["thing"]) (B : Blt mg) : Fn P w K mg base 1 "is_pair" ["thing"] spis_pair := by
  refine D.ok scis_pair (fun vs H Q E h => ?_) (fun f cdv A outer s H vs Q E hr h => ?_)
  · obtain ⟨a, t, _⟩ := h
    exact t.length
  · obtain ⟨d, t, _, q⟩ := h
    obtain ⟨v, rfl, tv⟩ := tpAll_one t
    refine ⟨_, (pss_one (ps_ret (pe_and (pe_callB (r := rIsi K) call_isi rfl B.isinstance (by decide +kernel) (pa_cons (pv 0) (pa_cons (pe_bltn (v := .ty "tuple") (u := .type "tuple") rfl B.tuple (by decide +kernel) rfl) pa_nil))) (pe_one (pe_cmpR op_eq (pe_callB (r := rLenQ K) call_len_seq rfl B.len PySem.boot_len (pa_cons (pv 0) pa_nil)) pe_int (nomark _)))))), ?_⟩
    cases d with
    | tuple ds => exact s_ret (EvD.is (d_and (b := true) (d_isi (d_var rfl tv) (kit_tuple _)) fun _ => d_eqI (d_len (d_var rfl tv)) d_int) (by rfl)) q
    | _ => exact s_ret (EvD.is (d_and (b := false) (c := false) (d_isi (d_var rfl tv) (kit_tuple _)) fun z => nomatch z) (by rfl)) q
abbrev sgathered : Stmt := topS 17
abbrev Ngathered : List Str := ["names", "clauses"]
theorem scgathered : FnScope Ngathered ["names", "clauses"] (defScope sgathered) := ⟨rfl, rfl, rfl, by decide +kernel, rfl, by decide +kernel, by decide +kernel⟩
-- gathered: {0: 'names', 1: 'clauses'}
abbrev spgathered (P : Program) (w : World) (K : PySem.W.Frag) : Sp := fun vs H Q _ => ∃ (v : V) (p : Addr) (xs : List V) (n : Int) (cs : List Row), vs = [v, .ref p] ∧ Tp H v (.int n) ∧ H p = some (.lst xs) ∧ TpAll H xs (cs.map rowD) ∧ cs.length < 64 ∧ ∀ v H', Same H H' → Tp H' v (bunD n (norm cs)) → Q v H'
theorem okgathered (D : Def K mg "gathered" sgathered ["names", "clauses"]) (B : Blt mg) : Fn P w K mg base 1 "gathered" ["names", "clauses"] (spgathered P w K) := by
  refine D.ok scgathered (fun vs H Q E h => ?_) (fun f cdv A outer s H vs Q E hr h => ?_)
  · obtain ⟨v, p, xs, n, cs, rfl, _⟩ := h
    rfl
  · obtain ⟨v, p, xs, n, cs, rfl, tv, h1, h2, hz, q⟩ := h
    have hu64 := hr.units
    refine ⟨_, (pss_one (ps_ret (pe_tup (pa_cons (pv 0) (pa_cons (pe_callTy (r := rTupQ K) call_tuple_of rfl B.tuple (by decide +kernel) (pa_cons (pe_callB (r := rSortS K P w) (cr_sortS rfl hu64) rfl B.sorted (by decide +kernel) (pa_cons (pe_callTy (r := rSetOfT K P w) (cr_setOfT rfl hu64) rfl B.set (by decide +kernel) (pa_cons (pv 1) pa_nil)) pa_nil)) pa_nil)) pa_nil))))), ?_⟩
    exact s_ret (d_tup (a_cons (d_var rfl tv) (a_cons (d_tupOf (l_sortset (v_var rfl h1 h2) hz).v) a_nil)) (by show 2 ≤ 100000; decide)) q
theorem d_gathered {te tl : TE} {σ : L2.St} {H : Hp} {n : Int} {cs : List Row} (h : EvD te σ H (.int n)) (hl : EvLv tl σ H (cs.map rowD)) (hz : cs.length < 64) : EvD (tCall (spgathered P w K) [] E0 (tCons te (tCons tl tNil))) σ H (bunD n (norm cs)) := fun H1 s Q q =>
  h H1 s _ fun v H2 s2 x => hl H2 (s.trans s2) _ fun p xs H3 s3 h1 h2 => ⟨v, p, xs, n, cs, rfl, x.mono s3, h1, h2, hz, fun v H4 s4 y => q v H4 ((s2.trans s3).trans s4) y⟩

/-! ### bundles that are such -/
/-- the rows are clauses of n names, ascending -/
def clsB (n : Int) (cs : List Row) : Prop := (∀ c ∈ cs, rowDB n (rowD c) = true) ∧ Up cs
structure BunOk (n : Int) (cs : List Row) : Prop where
  lo : 1 ≤ n
  hi : n ≤ 7
  rows : ∀ c ∈ cs, rowDB n (rowD c) = true
  up : Up cs
  few : cs.length ≤ 16
abbrev s_first_wrong : Stmt := topS 20
abbrev N_first_wrong : List Str := ["names", "clauses", "at", "clause"]
theorem sc_first_wrong : FnScope N_first_wrong ["names", "clauses"] (defScope s_first_wrong) := ⟨rfl, rfl, rfl, by decide +kernel, rfl, by decide +kernel, by decide +kernel⟩
-- _first_wrong: {0: 'names', 1: 'clauses', 2: 'at', 3: 'clause'}
abbrev sp_first_wrong : Sp := spD (fun a : Int × List Row => [.int a.1, rowsD a.2]) (fun a => (∀ c ∈ a.2, rowDB a.1 (rowD c) = true) ∧ Up a.2) (fun _ => .none)
theorem up_at {cs : List Row} (h : Up cs) {i : Nat} {c d : Row} (h1 : cs[i]? = some c) (h2 : cs[i + 1]? = some d) : HT.lexLt c d = true := by
  obtain ⟨a1, e1⟩ := List.getElem?_eq_some_iff.mp h1
  obtain ⟨a2, e2⟩ := List.getElem?_eq_some_iff.mp h2
  have := List.pairwise_iff_getElem.mp h i (i + 1) a1 a2 (by omega)
  rw [e1, e2] at this
  exact this
theorem ok_first_wrong (D : Def K mg "_first_wrong" s_first_wrong ["names", "clauses"]) (B : Blt mg) (Fis_literal_row : Fn P w K mg base 3 "is_literal_row" ["names", "thing"] spis_literal_row) : Fn P w K mg base 4 "_first_wrong" ["names", "clauses"] sp_first_wrong := by
  refine D.ok sc_first_wrong (fun vs H Q E h => ?_) (fun f cdv A outer s H vs Q E hr h => ?_)
  · obtain ⟨a, t, _⟩ := h
    exact t.length
  · obtain ⟨⟨n, cs⟩, t, ⟨hrow, hup⟩, q⟩ := h
    obtain ⟨v, x, rfl, tv, tx⟩ := tpAll_two t
    have hu0 := hr.units0
    refine ⟨_, (pss_cons (ps_for (passes_of rfl) rfl (pi_enumT rfl B.enumerate (pa_cons (pv 1) pa_nil)) (pg_tup rfl (pgs_cons (pg_name (i := 2) sc_first_wrong.nd rfl (Or.inl rfl)) (pgs_cons (pg_name (i := 3) sc_first_wrong.nd rfl (Or.inl rfl)) pgs_nil))) (pss_cons (ps_if (pt_not (pt_val (pe_fn (Fis_literal_row.mono (by decide)) hr (pa_cons (pv 0) (pa_cons (pv 3) pa_nil))))) (pss_one (ps_ret (pv 2))) pss_nil)
      (pss_one (ps_if (PW.pt (pw_and (pt_cmpR op_gt (pv 2) pe_int (nomark _)) (pw_and1 (pt_cmpR (r := rLeT K) (op_leT hu0) (pv 3) (pe_ix (r := rIxT K) ix_tup (pv 1) (pe_op op_sub (pv 2) pe_int) (fun _ _ => rfl)) (nomark _))))) (pss_one (ps_ret (pv 2))) pss_nil))))
      (pss_one (ps_ret pe_non))), ?_⟩
    refine q_forE (d_var rfl tx) fun H3 s3 => ⟨fun i σ' H' => ∃ y z, σ' = [some v, some x, y, z] ∧ Same H H' ∧ Same H3 H', ⟨none, none, rfl, s3, Same.refl _⟩, fun i σ' H' _ p => ?_, fun i z d σ' H' H2 hi s2 tz p => ?_, fun σ' H' p => ?_⟩
    · obtain ⟨_, _, _, _, s⟩ := p
      exact Same.ts s
    · obtain ⟨y, z', rfl, s4, s5⟩ := p
      rw [List.getElem?_map] at hi
      cases hc : cs[i]? with
      | none => rw [hc] at hi; cases hi
      | some c =>
        rw [hc] at hi
        have hi' : rowD c = d := Option.some.inj hi
        subst hi'
        have tv4 := (tv.mono s4).mono s2
        have tx4 := (tx.mono s4).mono s2
        have hm : rowDB n (rowD c) = true := hrow c (List.mem_of_getElem? hc)
        have h1 : EvD (tCall spis_literal_row [] E0 (tCons (tVar 0) (tCons (tVar 3) tNil))) [some v, some x, some (.int (i : Int)), some z] H2 (.bool (rowDB n (rowD c))) :=
          d_call (n, rowD c) trivial (a_cons (d_var rfl tv4) (a_cons (d_var rfl tz) a_nil))
        rw [hm] at h1
        refine q_skip (b_not (b_val h1)) fun H5 s6 => ?_
        refine s_skip (EvB.is (b_and (c := false) (b_test (d_gt (d_var rfl (.int _)) d_int)) fun hb => ?_) (by rw [Bool.and_false])) fun H6 s7 => ⟨_, _, rfl, ((s4.trans s2).trans s6).trans s7, ((s5.trans s2).trans s6).trans s7⟩
        have hb' : (0 : Int) < (i : Int) := of_decide_eq_true hb
        obtain ⟨k, rfl⟩ : ∃ k, i = k + 1 := ⟨i - 1, by omega⟩
        have hlt := (List.getElem?_eq_some_iff.mp hc).1
        obtain ⟨c0, hc0⟩ : ∃ c0, cs[k]? = some c0 := ⟨cs[k], List.getElem?_eq_getElem (by omega)⟩
        have hu := up_at hup hc0 hc
        refine b_test (EvD.is (d_leR (y := c0) (d_var rfl (tz.mono s6)) (d_ix (ds := cs.map rowD) (d_var rfl (tx4.mono s6)) (d_sub (d_var rfl (.int _)) d_int) ?_)) ?_)
        · have e : ((k + 1 : Nat) : Int) - 1 = (k : Int) := by omega
          rw [e]
          exact atI_nat (j := k) (by rw [List.getElem?_map, hc0]; rfl)
        · rw [hu]
          rfl
    · obtain ⟨y, z, rfl, s4, s5⟩ := p
      exact s_ret d_non fun y H6 s7 ty => q y H6 (s4.trans s7) ty
abbrev sneed_bundle : Stmt := topS 19
abbrev Nneed_bundle : List Str := ["thing", "names", "clauses", "wrong"]
theorem scneed_bundle : FnScope Nneed_bundle ["thing"] (defScope sneed_bundle) := ⟨rfl, rfl, rfl, by decide +kernel, rfl, by decide +kernel, by decide +kernel⟩
-- need_bundle: {0: 'thing', 1: 'names', 2: 'clauses', 3: 'wrong'}
abbrev spneed_bundle : Sp := spD (fun a : Int × List Row => [bunD a.1 a.2]) (fun a => BunOk a.1 a.2) (fun a => bunD a.1 a.2)
theorem okneed_bundle (D : Def K mg "need_bundle" sneed_bundle ["thing"]) (B : Blt mg) (C : Cst mg t1 t2) (Fis_pair : Fn P w K mg base 1 "is_pair" ["thing"] spis_pair) (Fis_names : Fn P w K mg base 2 "is_names" ["thing"] spis_names) (F_first_wrong : Fn P w K mg base 4 "_first_wrong" ["names", "clauses"] sp_first_wrong) : Fn P w K mg base 5 "need_bundle" ["thing"] spneed_bundle := by
  refine D.ok scneed_bundle (fun vs H Q E h => ?_) (fun f cdv A outer s H vs Q E hr h => ?_)
  · obtain ⟨a, t, _⟩ := h
    exact t.length
  · obtain ⟨⟨n, cs⟩, t, ok, q⟩ := h
    obtain ⟨v, rfl, tv⟩ := tpAll_one t
    refine ⟨_, (pss_cons (ps_if (pt_not (pt_val (pe_fn (Fis_pair.mono (by decide)) hr (pa_cons (pv 0) pa_nil)))) (pss_one ps_never) pss_nil)
      (pss_cons (ps_asg (pv 0) (pg_tup rfl (pgs_cons (pg_name (i := 1) scneed_bundle.nd rfl (Or.inl rfl)) (pgs_cons (pg_name (i := 2) scneed_bundle.nd rfl (Or.inl rfl)) pgs_nil))))
      (pss_cons (ps_if (pt_not (pt_val (pe_fn (Fis_names.mono (by decide)) hr (pa_cons (pv 1) pa_nil)))) (pss_one ps_never) pss_nil)
      (pss_cons (ps_if (PW.pt (pw_or (pt_not (pt_val (pe_callB (r := rIsi K) call_isi rfl B.isinstance (by decide +kernel) (pa_cons (pv 2) (pa_cons (pe_bltn (v := .ty "tuple") (u := .type "tuple") rfl B.tuple (by decide +kernel) rfl) pa_nil))))) (pw_or1 (pt_cmpR op_gt (pe_callB (r := rLenQ K) call_len_seq rfl B.len PySem.boot_len (pa_cons (pv 2) pa_nil)) (pe_glob (v := .int 16) rfl C.MOST_CLAUSES ⟨_, rfl⟩) (nomark _))))) (pss_one ps_never) pss_nil)
      (pss_cons (ps_set (i := 3) scneed_bundle.nd rfl (Or.inl rfl) (pe_fn (F_first_wrong.mono (by decide)) hr (pa_cons (pv 1) (pa_cons (pv 2) pa_nil))))
      (pss_cons (ps_if (pt_cmpR op_notN (pv 3) pe_non (nomark _)) (pss_one ps_never) pss_nil)
      (pss_one (ps_ret (pv 0))))))))), ?_⟩
    refine q_skip (EvB.is (b_not (b_val (d_call (bunD n cs) trivial (a_cons (d_var rfl tv) a_nil)))) (by rfl)) fun H1 s1 => ?_
    refine q_unpack (d_var rfl (tv.mono s1)) fun y z H2 s2 ty tz => ?_
    have h1 : EvD (tCall spis_names [] E0 (tCons (tVar 1) tNil)) [some v, some y, some z, none] H2 (.bool true) :=
      EvD.is (d_call (.int n) rfl (a_cons (d_var rfl ty) a_nil)) (by show PyData.bool (decide (1 ≤ n) && decide (n ≤ 7)) = .bool true; rw [decide_eq_true ok.lo, decide_eq_true ok.hi]; rfl)
    refine q_skip (b_not (b_val h1)) fun H3 s3 => ?_
    have ty3 := ty.mono s3
    have tz3 := tz.mono s3
    refine q_skip (EvB.is (b_or (b_not (b_val (d_isi (d_var rfl tz3) (kit_tuple _)))) fun _ => b_test (d_gt (d_len (d_var rfl tz3)) d_int)) ?_) fun H4 s4 => ?_
    · rw [List.length_map]
      show (false || decide ((16 : Int) < (cs.length : Int))) = false
      have hf : cs.length ≤ 16 := ok.few
      rw [decide_eq_false (by omega)]
      rfl
    refine q_asg (d_call (n, cs) ⟨ok.rows, ok.up⟩ (a_cons (d_var rfl (ty3.mono s4)) (a_cons (d_var rfl (tz3.mono s4)) a_nil))) fun a H5 s5 ta => ?_
    refine q_skip (b_test (d_notN (d_var rfl ta) rfl)) fun H6 s6 => ?_
    have ss := ((((s1.trans s2).trans s3).trans s4).trans s5).trans s6
    exact s_ret (d_var rfl (tv.mono ss)) fun y H7 s7 ty => q y H7 (ss.trans s7) ty
abbrev sneed_clause : Stmt := topS 21
abbrev Nneed_clause : List Str := ["bundle", "thing", "names", "_"]
theorem scneed_clause : FnScope Nneed_clause ["bundle", "thing"] (defScope sneed_clause) := ⟨rfl, rfl, rfl, by decide +kernel, rfl, by decide +kernel, by decide +kernel⟩
-- need_clause: {0: 'bundle', 1: 'thing', 2: 'names', 3: '_'}
abbrev spneed_clause : Sp := spD (fun a : Int × List Row × Row => [bunD a.1 a.2.1, rowD a.2.2]) (fun a => BunOk a.1 a.2.1 ∧ rowDB a.1 (rowD a.2.2) = true) (fun a => rowD a.2.2)
theorem okneed_clause (D : Def K mg "need_clause" sneed_clause ["bundle", "thing"]) (B : Blt mg) (Fneed_bundle : Fn P w K mg base 5 "need_bundle" ["thing"] spneed_bundle) (Fis_literal_row : Fn P w K mg base 3 "is_literal_row" ["names", "thing"] spis_literal_row) : Fn P w K mg base 6 "need_clause" ["bundle", "thing"] spneed_clause := by
  refine D.ok scneed_clause (fun vs H Q E h => ?_) (fun f cdv A outer s H vs Q E hr h => ?_)
  · obtain ⟨a, t, _⟩ := h
    exact t.length
  · obtain ⟨⟨n, cs, c⟩, t, ⟨ok, hc⟩, q⟩ := h
    obtain ⟨v, x, rfl, tv, tx⟩ := tpAll_two t
    refine ⟨_, (pss_cons (ps_asg (pe_fn (Fneed_bundle.mono (by decide)) hr (pa_cons (pv 0) pa_nil)) (pg_tup rfl (pgs_cons (pg_name (i := 2) scneed_clause.nd rfl (Or.inl rfl)) (pgs_cons (pg_name (i := 3) scneed_clause.nd rfl (Or.inl rfl)) pgs_nil))))
      (pss_cons (ps_if (pt_not (pt_val (pe_fn (Fis_literal_row.mono (by decide)) hr (pa_cons (pv 2) (pa_cons (pv 1) pa_nil))))) (pss_one ps_never) pss_nil)
      (pss_one (ps_ret (pv 1))))), ?_⟩
    refine q_unpack (d_call (n, cs) ok (a_cons (d_var rfl tv) a_nil)) fun y z H2 s2 ty tz => ?_
    have h1 : EvD (tCall spis_literal_row [] E0 (tCons (tVar 2) (tCons (tVar 1) tNil))) [some v, some x, some y, some z] H2 (.bool true) :=
      EvD.is (d_call (n, rowD c) trivial (a_cons (d_var rfl ty) (a_cons (d_var rfl (tx.mono s2)) a_nil))) (congrArg PyData.bool hc)
    refine q_skip (b_not (b_val h1)) fun H3 s3 => ?_
    exact s_ret (d_var rfl (tx.mono (s2.trans s3))) fun y H4 s4 ty => q y H4 ((s2.trans s3).trans s4) ty
/-- names of a lot are few -/
theorem okD_len {n : Int} : ∀ {ds : List PyData} {last : Int}, okD n last ds = true → last ≤ n → (ds.length : Int) ≤ n - last
  | [], last, _, h => by
    show (0 : Int) ≤ n - last
    omega
  | d :: ds, last, h, hl => by
    cases d with
    | int l =>
      have h : (litB n l && !decide (iabs l ≤ last) && okD n (iabs l) ds) = true := h
      rw [Bool.and_eq_true, Bool.and_eq_true] at h
      obtain ⟨⟨h1, h2⟩, h3⟩ := h
      have h1' : (decide (1 ≤ iabs l) && decide (iabs l ≤ n)) = true := h1
      rw [Bool.and_eq_true, decide_eq_true_eq, decide_eq_true_eq] at h1'
      have h2' : ¬ iabs l ≤ last := by
        intro q
        rw [decide_eq_true q] at h2
        cases h2
      have ih := okD_len h3 h1'.2
      rw [List.length_cons]
      omega
    | _ => cases h
theorem row_len {n : Int} {c : Row} (h : rowDB n (rowD c) = true) (hn : 0 ≤ n) : (c.length : Int) ≤ n := by
  have h := okD_len (n := n) (ds := c.map .int) (last := 0) h hn
  rw [List.length_map] at h
  omega
def LotOk (n : Int) (lot : Row) : Prop := lotDB n (rowD lot) = true
theorem lot_row {n : Int} {lot : Row} (h : LotOk n lot) : rowDB n (rowD lot) = true := by
  unfold LotOk lotDB at h
  rw [Bool.and_eq_true] at h
  exact h.1
abbrev sneed_lot : Stmt := topS 22
abbrev Nneed_lot : List Str := ["bundle", "thing", "names", "_"]
theorem scneed_lot : FnScope Nneed_lot ["bundle", "thing"] (defScope sneed_lot) := ⟨rfl, rfl, rfl, by decide +kernel, rfl, by decide +kernel, by decide +kernel⟩
-- need_lot: {0: 'bundle', 1: 'thing', 2: 'names', 3: '_'}
abbrev spneed_lot : Sp := spD (fun a : Int × List Row × Row => [bunD a.1 a.2.1, rowD a.2.2]) (fun a => BunOk a.1 a.2.1 ∧ LotOk a.1 a.2.2) (fun a => rowD a.2.2)
theorem okneed_lot (D : Def K mg "need_lot" sneed_lot ["bundle", "thing"]) (B : Blt mg) (Fneed_bundle : Fn P w K mg base 5 "need_bundle" ["thing"] spneed_bundle) (Fis_lot : Fn P w K mg base 4 "is_lot" ["names", "thing"] spis_lot) : Fn P w K mg base 6 "need_lot" ["bundle", "thing"] spneed_lot := by
  refine D.ok scneed_lot (fun vs H Q E h => ?_) (fun f cdv A outer s H vs Q E hr h => ?_)
  · obtain ⟨a, t, _⟩ := h
    exact t.length
  · obtain ⟨⟨n, cs, c⟩, t, ⟨ok, hc⟩, q⟩ := h
    obtain ⟨v, x, rfl, tv, tx⟩ := tpAll_two t
    refine ⟨_, (pss_cons (ps_asg (pe_fn (Fneed_bundle.mono (by decide)) hr (pa_cons (pv 0) pa_nil)) (pg_tup rfl (pgs_cons (pg_name (i := 2) scneed_lot.nd rfl (Or.inl rfl)) (pgs_cons (pg_name (i := 3) scneed_lot.nd rfl (Or.inl rfl)) pgs_nil))))
      (pss_cons (ps_if (pt_not (pt_val (pe_fn (Fis_lot.mono (by decide)) hr (pa_cons (pv 2) (pa_cons (pv 1) pa_nil))))) (pss_one ps_never) pss_nil)
      (pss_one (ps_ret (pv 1))))), ?_⟩
    refine q_unpack (d_call (n, cs) ok (a_cons (d_var rfl tv) a_nil)) fun y z H2 s2 ty tz => ?_
    have hl : sizeD (rowD c) ≤ 1000 := by
      have h0 : 1 ≤ n := ok.lo
      have h1 : (c.length : Int) ≤ n := row_len (lot_row hc) (by omega)
      have h2 : n ≤ 7 := ok.hi
      show (c.map PyData.int).length ≤ 1000
      rw [List.length_map]
      omega
    have h1 : EvD (tCall spis_lot [] E0 (tCons (tVar 2) (tCons (tVar 1) tNil))) [some v, some x, some y, some z] H2 (.bool true) :=
      EvD.is (d_call (n, rowD c) hl (a_cons (d_var rfl ty) (a_cons (d_var rfl (tx.mono s2)) a_nil))) (congrArg PyData.bool hc)
    refine q_skip (b_not (b_val h1)) fun H3 s3 => ?_
    exact s_ret (d_var rfl (tx.mono (s2.trans s3))) fun y H4 s4 ty => q y H4 ((s2.trans s3).trans s4) ty
abbrev sneed_number : Stmt := topS 23
abbrev Nneed_number : List Str := ["bundle", "thing", "_", "clauses"]
theorem scneed_number : FnScope Nneed_number ["bundle", "thing"] (defScope sneed_number) := ⟨rfl, rfl, rfl, by decide +kernel, rfl, by decide +kernel, by decide +kernel⟩
-- need_number: {0: 'bundle', 1: 'thing', 2: '_', 3: 'clauses'}
abbrev spneed_number : Sp := spD (fun a : Int × List Row × Int => [bunD a.1 a.2.1, .int a.2.2]) (fun a => BunOk a.1 a.2.1 ∧ 0 ≤ a.2.2 ∧ a.2.2 < (a.2.1.length : Int)) (fun a => .int a.2.2)
theorem okneed_number (D : Def K mg "need_number" sneed_number ["bundle", "thing"]) (B : Blt mg) (Fneed_bundle : Fn P w K mg base 5 "need_bundle" ["thing"] spneed_bundle) (Fis_index : Fn P w K mg base 2 "is_index" ["many", "thing"] spis_index) : Fn P w K mg base 6 "need_number" ["bundle", "thing"] spneed_number := by
  refine D.ok scneed_number (fun vs H Q E h => ?_) (fun f cdv A outer s H vs Q E hr h => ?_)
  · obtain ⟨a, t, _⟩ := h
    exact t.length
  · obtain ⟨⟨n, cs, i⟩, t, ⟨ok, h0, h1⟩, q⟩ := h
    obtain ⟨v, x, rfl, tv, tx⟩ := tpAll_two t
    refine ⟨_, (pss_cons (ps_asg (pe_fn (Fneed_bundle.mono (by decide)) hr (pa_cons (pv 0) pa_nil)) (pg_tup rfl (pgs_cons (pg_name (i := 2) scneed_number.nd rfl (Or.inl rfl)) (pgs_cons (pg_name (i := 3) scneed_number.nd rfl (Or.inl rfl)) pgs_nil))))
      (pss_cons (ps_if (pt_not (pt_val (pe_fn (Fis_index.mono (by decide)) hr (pa_cons (pe_callB (r := rLenQ K) call_len_seq rfl B.len PySem.boot_len (pa_cons (pv 3) pa_nil)) (pa_cons (pv 1) pa_nil))))) (pss_one ps_never) pss_nil)
      (pss_one (ps_ret (pv 1))))), ?_⟩
    refine q_unpack (d_call (n, cs) ok (a_cons (d_var rfl tv) a_nil)) fun y z H2 s2 ty tz => ?_
    have hd : (decide (0 ≤ i) && decide (i < (((cs.map rowD).length : Nat) : Int))) = true := by
      rw [List.length_map, decide_eq_true h0, decide_eq_true h1]
      rfl
    refine q_skip (EvB.is (b_not (b_val (d_call (_, .int i) trivial (a_cons (d_len (d_var rfl tz)) (a_cons (d_var rfl (tx.mono s2)) a_nil))))) ?_) fun H3 s3 => ?_
    · show (!(decide (0 ≤ i) && decide (i < (((cs.map rowD).length : Nat) : Int)))) = false
      rw [hd]
      rfl
    · exact s_ret (d_var rfl (tx.mono (s2.trans s3))) fun y H4 s4 ty => q y H4 ((s2.trans s3).trans s4) ty
abbrev swithout_names : Stmt := topS 25
abbrev Nwithout_names : List Str := ["clause", "lot", "literal"]
theorem scwithout_names : FnScope Nwithout_names ["clause", "lot"] (defScope swithout_names) := ⟨rfl, rfl, rfl, by decide +kernel, rfl, by decide +kernel, by decide +kernel⟩
-- without_names: {0: 'clause', 1: 'lot', 2: 'literal'}
def cutRow (lot : Row) (c : Row) : Row := c.filter fun l => !decide (iabs l ∈ lot)
abbrev spwithout_names : Sp := spD (fun a : Row × Row => [rowD a.1, rowD a.2]) (fun a => a.1.length ≤ 1000) (fun a => rowD (cutRow a.2 a.1))
theorem okwithout_names (D : Def K mg "without_names" swithout_names ["clause", "lot"]) (B : Blt mg) : Fn P w K mg base 1 "without_names" ["clause", "lot"] spwithout_names := by
  refine D.ok scwithout_names (fun vs H Q E h => ?_) (fun f cdv A outer s H vs Q E hr h => ?_)
  · obtain ⟨a, t, _⟩ := h
    exact t.length
  · obtain ⟨⟨c, lot⟩, t, hc, q⟩ := h
    obtain ⟨v, x, rfl, tv, tx⟩ := tpAll_two t
    refine ⟨_, (pss_one (ps_ret (pe_callTy (r := rTupQ K) call_tuple_of rfl B.tuple (by decide +kernel) (pa_cons (pe_lc (own := [("literal", 2)]) (g := gName 2) rfl scwithout_names.nd (pi_tup (pv 0)) (blkOk_by (N := Nwithout_names) (sc := defScope swithout_names) (by decide +kernel)) (fun _ _ _ _ _ => pg_name (i := 2) scwithout_names.nd rfl (Or.inl rfl)) (fun _ _ _ _ _ => pts_one (pt_cmpR (r := rIn K true) op_notIn_seq (pe_callB call_abs rfl B.abs (by decide +kernel) (pa_cons (pv 2) pa_nil)) (pv 1) (by rfl))) (fun _ _ _ _ _ => (pv 2))) pa_nil)))), ?_⟩
    refine s_ret (d_tupOf (EvLs.v (l_compI (fun l => !decide (iabs l ∈ lot)) .int (d_var rfl tv) (Nat.le_trans hc (by decide)) (fun _ => rfl) (fun l z H1 s1 hm hz => ?_) fun l z H1 s1 hm hz _ => ?_))) q
    · subst hz
      exact b_test (d_niR (d_abs (d_var rfl (.int _))) (d_var rfl (tx.mono s1)))
    · subst hz
      exact d_var rfl (.int _)
abbrev scrossed : Stmt := topS 24
abbrev Ncrossed : List Str := ["bundle", "lot", "names", "clauses", "shorter", "clause"]
theorem sccrossed : FnScope Ncrossed ["bundle", "lot"] (defScope scrossed) := ⟨rfl, rfl, rfl, by decide +kernel, rfl, by decide +kernel, by decide +kernel⟩
-- crossed: {0: 'bundle', 1: 'lot', 2: 'names', 3: 'clauses', 4: 'shorter', 5: 'clause'}
def crossM (cs : List Row) (lot : Row) : List Row := norm ((cs.map (cutRow lot)).filter fun c => !decide (c = []))
abbrev spcrossed : Sp := spD (fun a : Int × List Row × Row => [bunD a.1 a.2.1, rowD a.2.2]) (fun a => BunOk a.1 a.2.1 ∧ LotOk a.1 a.2.2) (fun a => bunD a.1 (crossM a.2.1 a.2.2))
theorem okcrossed (D : Def K mg "crossed" scrossed ["bundle", "lot"]) (B : Blt mg) (Fneed_lot : Fn P w K mg base 6 "need_lot" ["bundle", "thing"] spneed_lot) (Fwithout_names : Fn P w K mg base 1 "without_names" ["clause", "lot"] spwithout_names) (Fgathered : Fn P w K mg base 1 "gathered" ["names", "clauses"] (spgathered P w K)) :
    Fn P w K mg base 7 "crossed" ["bundle", "lot"] spcrossed := by
  refine D.ok sccrossed (fun vs H Q E h => ?_) (fun f cdv A outer s H vs Q E hr h => ?_)
  · obtain ⟨a, t, _⟩ := h
    exact t.length
  · obtain ⟨⟨n, cs, lot⟩, t, ⟨ok, hl⟩, q⟩ := h
    obtain ⟨v, x, rfl, tv, tx⟩ := tpAll_two t
    have hu64 := hr.units
    refine ⟨_, (pss_cons (ps_expr (pe_fn (Fneed_lot.mono (by decide)) hr (pa_cons (pv 0) (pa_cons (pv 1) pa_nil))))
      (pss_cons (ps_asg (pv 0) (pg_tup rfl (pgs_cons (pg_name (i := 2) sccrossed.nd rfl (Or.inl rfl)) (pgs_cons (pg_name (i := 3) sccrossed.nd rfl (Or.inl rfl)) pgs_nil))))
      (pss_cons (ps_setLc (i := 4) (own := [("clause", 5)]) (g := gName 5) (tt := tYes) rfl sccrossed.nd rfl rfl (sw_true rfl rfl rfl (by decide +kernel)) (pi_tup (pv 3)) (blkOk_by (N := Ncrossed) (sc := defScope scrossed) (by decide +kernel)) (fun _ _ _ _ _ => pg_name (i := 5) sccrossed.nd rfl (Or.inl rfl)) (fun _ _ _ _ _ => pts_nil) (fun _ _ _ _ _ => (pe_fn (Fwithout_names.mono (by decide)) hr (pa_cons (pv 5) (pa_cons (pv 1) pa_nil)))))
      (pss_one (ps_ret (pe_fn (Fgathered.mono (by decide)) hr (pa_cons (pv 2) (pa_cons (pe_lc (own := [("clause", 5)]) (g := gName 5) rfl sccrossed.nd (pi_list (pv 4)) (blkOk_by (N := Ncrossed) (sc := defScope scrossed) (by decide +kernel)) (fun _ _ _ _ _ => pg_name (i := 5) sccrossed.nd rfl (Or.inl rfl)) (fun _ _ _ _ _ => pts_one (pt_cmpR (r := rNeD K) (op_neD hu64) (pv 5) (pe_tup pa_nil) (nomark _))) (fun _ _ _ _ _ => (pv 5))) pa_nil)))))))), ?_⟩
    have hf : cs.length ≤ 16 := ok.few
    have hrow : ∀ c ∈ cs, c.length ≤ 1000 := fun c hc => by
      have h1 := row_len (ok.rows c hc) (by have := ok.lo; omega)
      have h2 := ok.hi
      omega
    refine q_drop (d_call (n, cs, lot) ⟨ok, hl⟩ (a_cons (d_var rfl tv) (a_cons (d_var rfl tx) a_nil))) fun H1 s1 => ?_
    refine q_unpack (d_var rfl (tv.mono s1)) fun y z H2 s2 ty tz => ?_
    have tx2 := (tx.mono s1).mono s2
    refine q_asgL (ds := ((cs.filter fun _ => true).map fun c => rowD (cutRow lot c))) (l_compRs (fun _ => true) (fun c => rowD (cutRow lot c)) (d_var rfl tz) (by omega) (fun _ => rfl) (fun _ _ _ _ _ _ => b_yes) fun c u H3 s3 hm tu _ => ?_) fun p xs H3 hp s3 h1 h2 => ?_
    · exact d_call (c, lot) (hrow c hm) (a_cons (d_var rfl tu) (a_cons (d_var rfl (tx2.mono s3)) a_nil))
    · have e1 : ((cs.filter fun _ => true).map fun c => rowD (cutRow lot c)) = (cs.map (cutRow lot)).map rowD := by
        rw [List.filter_eq_self.mpr (fun _ _ => rfl), List.map_map]
        rfl
      rw [e1] at h2
      have ss := (s1.trans s2).trans s3
      refine s_ret (d_gathered (cs := (cs.map (cutRow lot)).filter fun c => !decide (c = [])) (d_var rfl (ty.mono s3)) (EvLs.v (l_compRsL (fun c => !decide (c = [])) rowD (v_var rfl h1 h2) (by rw [List.length_map]; omega) (fun _ => rfl) (fun c u H4 s4 hm tu => ?_) fun c u H4 s4 hm tu _ => d_var rfl tu)) ?_) fun y H4 s4 ty => q y H4 (ss.trans s4) ty
      · exact b_test (d_neRow (x := c) (y := []) (d_var rfl tu) (d_tup a_nil (by decide)))
      · have := List.length_filter_le (fun c => !decide (c = [])) (cs.map (cutRow lot))
        rw [List.length_map] at this
        exact Nat.lt_of_le_of_lt this (by omega)
abbrev swithout : Stmt := topS 26
abbrev Nwithout : List Str := ["bundle", "number", "names", "clauses"]
theorem scwithout : FnScope Nwithout ["bundle", "number"] (defScope swithout) := ⟨rfl, rfl, rfl, by decide +kernel, rfl, by decide +kernel, by decide +kernel⟩
-- without: {0: 'bundle', 1: 'number', 2: 'names', 3: 'clauses'}
abbrev spwithout : Sp := spD (fun a : Int × List Row × Int => [bunD a.1 a.2.1, .int a.2.2]) (fun a => BunOk a.1 a.2.1 ∧ 0 ≤ a.2.2 ∧ a.2.2 < (a.2.1.length : Int)) (fun a => bunD a.1 (a.2.1.eraseIdx a.2.2.toNat))
theorem sIx_of {n d : Nat} {i : Int} (h0 : 0 ≤ i) (h1 : i ≤ (n : Int)) : HT.sIx n d (some i) = i.toNat := by
  have e : i = ((i.toNat : Nat) : Int) := by omega
  rw [e, HT.sIx_nat]
  omega
theorem cut_both (ds : List PyData) {i : Int} (h0 : 0 ≤ i) (h1 : i < (ds.length : Int)) : cutD ds none (some i) ++ cutD ds (some (i + 1)) none = ds.eraseIdx i.toNat := by
  unfold cutD
  rw [HT.sIx_none, HT.sIx_none, sIx_of h0 (by omega), sIx_of (by omega) (by omega), List.drop_zero, Nat.sub_zero, List.eraseIdx_eq_take_drop_succ]
  have e : (i + 1).toNat = i.toNat + 1 := by omega
  rw [e, List.take_of_length_le (l := ds.drop (i.toNat + 1)) (by rw [List.length_drop]; exact Nat.le_refl _)]
theorem okwithout (D : Def K mg "without" swithout ["bundle", "number"]) (B : Blt mg) (Fneed_number : Fn P w K mg base 6 "need_number" ["bundle", "thing"] spneed_number) : Fn P w K mg base 7 "without" ["bundle", "number"] spwithout := by
  refine D.ok scwithout (fun vs H Q E h => ?_) (fun f cdv A outer s H vs Q E hr h => ?_)
  · obtain ⟨a, t, _⟩ := h
    exact t.length
  · obtain ⟨⟨n, cs, i⟩, t, ⟨ok, h0, h1⟩, q⟩ := h
    obtain ⟨v, x, rfl, tv, tx⟩ := tpAll_two t
    refine ⟨_, (pss_cons (ps_expr (pe_fn (Fneed_number.mono (by decide)) hr (pa_cons (pv 0) (pa_cons (pv 1) pa_nil))))
      (pss_cons (ps_asg (pv 0) (pg_tup rfl (pgs_cons (pg_name (i := 2) scwithout.nd rfl (Or.inl rfl)) (pgs_cons (pg_name (i := 3) scwithout.nd rfl (Or.inl rfl)) pgs_nil))))
      (pss_one (ps_ret (pe_tup (pa_cons (pv 2) (pa_cons (pe_op (r := rCatA K) op_catA (pe_slice (r := rSlA K) sl_tupA (pv 3) po_none (po_some (pv 1))) (pe_slice (r := rSlA K) sl_tupA (pv 3) (po_some (pe_op op_add (pv 1) pe_int)) po_none)) pa_nil))))))), ?_⟩
    have hf : cs.length ≤ 16 := ok.few
    have h1' : i < ((cs.map rowD).length : Int) := by rw [List.length_map]; exact h1
    refine q_drop (d_call (n, cs, i) ⟨ok, h0, h1⟩ (a_cons (d_var rfl tv) (a_cons (d_var rfl tx) a_nil))) fun H1 s1 => ?_
    refine q_unpack (d_var rfl (tv.mono s1)) fun y z H2 s2 ty tz => ?_
    have tx2 := (tx.mono s1).mono s2
    have ss := s1.trans s2
    refine s_ret (EvD.is (d_tup (a_cons (d_var rfl ty) (a_cons (d_cat (d_slice (d_var rfl tz) o_none (o_some (d_var rfl tx2))) (d_slice (d_var rfl tz) (o_some (d_add (d_var rfl tx2) d_int)) o_none) ?_) a_nil)) (by show 2 ≤ 100000; decide)) ?_) fun y H4 s4 ty => q y H4 (ss.trans s4) ty
    · have l1 : ∀ lo hi, (cutD (cs.map rowD) lo hi).length ≤ 16 := fun lo hi => by
        unfold cutD
        rw [List.length_take, List.length_drop, List.length_map]
        omega
      have a1 := l1 none (some i)
      have a2 := l1 (some (i + 1)) none
      show (cutD (cs.map rowD) none (some i)).length + (cutD (cs.map rowD) (some (i + 1)) none).length ≤ 100000
      omega
    · rw [cut_both _ h0 h1']
      show PyData.tuple [.int n, .tuple ((cs.map rowD).eraseIdx i.toNat)] = bunD n (cs.eraseIdx i.toNat)
      unfold bunD rowsD
      rw [List.eraseIdx_eq_take_drop_succ, List.eraseIdx_eq_take_drop_succ, List.map_append, List.map_take, List.map_drop]
abbrev sput_to : Stmt := topS 27
abbrev Nput_to : List Str := ["bundle", "clause", "names", "clauses"]
theorem scput_to : FnScope Nput_to ["bundle", "clause"] (defScope sput_to) := ⟨rfl, rfl, rfl, by decide +kernel, rfl, by decide +kernel, by decide +kernel⟩
-- put_to: {0: 'bundle', 1: 'clause', 2: 'names', 3: 'clauses'}
def putM (cs : List Row) (c : Row) : List Row := if c ∈ cs then cs else norm (cs ++ [c])
abbrev spput_to : Sp := spD (fun a : Int × List Row × Row => [bunD a.1 a.2.1, rowD a.2.2]) (fun a => BunOk a.1 a.2.1 ∧ rowDB a.1 (rowD a.2.2) = true ∧ (a.2.2 ∈ a.2.1 ∨ a.2.1.length < 16)) (fun a => bunD a.1 (putM a.2.1 a.2.2))
theorem okput_to (D : Def K mg "put_to" sput_to ["bundle", "clause"]) (B : Blt mg) (C : Cst mg t1 t2) (Fneed_clause : Fn P w K mg base 6 "need_clause" ["bundle", "thing"] spneed_clause) (Fgathered : Fn P w K mg base 1 "gathered" ["names", "clauses"] (spgathered P w K)) :
    Fn P w K mg base 7 "put_to" ["bundle", "clause"] spput_to := by
  refine D.ok scput_to (fun vs H Q E h => ?_) (fun f cdv A outer s H vs Q E hr h => ?_)
  · obtain ⟨a, t, _⟩ := h
    exact t.length
  · obtain ⟨⟨n, cs, c⟩, t, ⟨ok, hc, hm⟩, q⟩ := h
    obtain ⟨v, x, rfl, tv, tx⟩ := tpAll_two t
    have hu64 := hr.units
    have hu65 : (A.deeper (envOfC "put_to" (defScope sput_to) s.heap.objs.size f cdv)).units + 65 < cLine := by have := hr.un; omega
    refine ⟨_, (pss_cons (ps_expr (pe_fn (Fneed_clause.mono (by decide)) hr (pa_cons (pv 0) (pa_cons (pv 1) pa_nil))))
      (pss_cons (ps_asg (pv 0) (pg_tup rfl (pgs_cons (pg_name (i := 2) scput_to.nd rfl (Or.inl rfl)) (pgs_cons (pg_name (i := 3) scput_to.nd rfl (Or.inl rfl)) pgs_nil))))
      (pss_cons (ps_if (pt_cmpR (r := rInT K) (op_inT hu65) (pv 1) (pv 3) (by rfl)) (pss_one (ps_ret (pv 0))) pss_nil)
      (pss_cons (ps_if (pt_cmpR op_ge (pe_callB (r := rLenQ K) call_len_seq rfl B.len PySem.boot_len (pa_cons (pv 3) pa_nil)) (pe_glob (v := .int 16) rfl C.MOST_CLAUSES ⟨_, rfl⟩) (nomark _)) (pss_one ps_never) pss_nil)
      (pss_one (ps_ret (pe_fn (Fgathered.mono (by decide)) hr (pa_cons (pv 2) (pa_cons (pe_lst (StX.pa_star (pv 3) (pa_cons (pv 1) pa_nil))) pa_nil))))))))), ?_⟩
    have hf : cs.length ≤ 16 := ok.few
    refine q_drop (d_call (n, cs, c) ⟨ok, hc⟩ (a_cons (d_var rfl tv) (a_cons (d_var rfl tx) a_nil))) fun H1 s1 => ?_
    refine q_unpack (d_var rfl (tv.mono s1)) fun y z H2 s2 ty tz => ?_
    have tx2 := (tx.mono s1).mono s2
    have ss := s1.trans s2
    refine q_when (b_test (d_inRs (d_var rfl tx2) (d_var rfl tz))) (fun hb H3 s3 => ?_) (fun hb H3 s3 => ?_)
    · have hb : c ∈ cs := of_decide_eq_true hb
      refine s_ret (d_var rfl ((tv.mono ss).mono s3)) fun y H4 s4 ty => q y H4 ((ss.trans s3).trans s4) ?_
      show Tp H4 y (bunD n (putM cs c))
      unfold putM
      rw [if_pos hb]
      exact ty
    · have hb : ¬ c ∈ cs := of_decide_eq_false hb
      have hm' : cs.length < 16 := Or.resolve_left (show c ∈ cs ∨ cs.length < 16 from hm) hb
      refine q_skip (EvB.is (b_test (d_ge (d_len (d_var rfl (tz.mono s3))) d_int)) ?_) fun H4 s4 => ?_
      · rw [List.length_map]
        exact decide_eq_false (by show ¬ ((16 : Int) ≤ (cs.length : Int)); omega)
      · refine s_ret (d_gathered (cs := cs ++ [c]) (d_var rfl ((ty.mono s3).mono s4)) (EvLs.v (EvLs.is (l_lst (a_star (d_var rfl ((tz.mono s3).mono s4)) (a_cons (d_var rfl ((tx2.mono s3).mono s4)) a_nil)) ?_) ?_)) ?_) fun y H5 s5 ty => q y H5 (((ss.trans s3).trans s4).trans s5) ?_
        · rw [List.length_append, List.length_map]
          show cs.length + 1 ≤ 100000
          omega
        · rw [List.map_append]
          rfl
        · rw [List.length_append]
          show cs.length + 1 < 64
          omega
        · show Tp H5 y (bunD n (putM cs c))
          unfold putM
          rw [if_neg hb]
          exact ty
end
/-- what okD tells of members -/
theorem okD_mem {n : Int} : ∀ {c : Row} {last : Int}, okD n last (c.map .int) = true → (∀ x ∈ c, last < iabs x ∧ 1 ≤ iabs x ∧ iabs x ≤ n) ∧ c.Pairwise (fun x y => iabs x < iabs y)
  | [], _, _ => ⟨fun x hx => by simp at hx, List.Pairwise.nil⟩
  | l :: c, last, h => by
    have h : (litB n l && !decide (iabs l ≤ last) && okD n (iabs l) (c.map .int)) = true := h
    rw [Bool.and_eq_true, Bool.and_eq_true] at h
    obtain ⟨⟨h1, h2⟩, h3⟩ := h
    have h1' : (decide (1 ≤ iabs l) && decide (iabs l ≤ n)) = true := h1
    rw [Bool.and_eq_true, decide_eq_true_eq, decide_eq_true_eq] at h1'
    have h2' : ¬ iabs l ≤ last := fun q => by rw [decide_eq_true q] at h2; cases h2
    obtain ⟨i1, i2⟩ := okD_mem h3
    refine ⟨fun x hx => ?_, List.pairwise_cons.mpr ⟨fun x hx => (i1 x hx).1, i2⟩⟩
    rcases List.mem_cons.mp hx with e | hx
    · rw [e]
      exact ⟨by omega, h1'.1, h1'.2⟩
    · have := i1 x hx
      exact ⟨by omega, this.2.1, this.2.2⟩
end Xh

/-! The drawn state of a law: a dict of two lists and two ints; what draws. -/
namespace Xh
open PySem PySem.Spec PyProof.Rows L2 Evl

def stK (c l : Addr) (t : Int) : List (Key × V) := [(.inr "cells", .ref c), (.inr "lefts", .ref l), (.inr "at", .int t), (.inr "room", .int 0)]
structure StAt (d c l : Addr) (n : Int) (H : Hp) : Prop where
  ne : c ≠ l
  at_ : ∃ t, 0 ≤ t ∧ t ≤ n ∧ H d = some (.dK (stK c l t))
  li : ∃ cs ls : Row, H c = some (.lst (cs.map V.int)) ∧ H l = some (.lst (ls.map V.int)) ∧ ls.length = cs.length ∧ 0 < cs.length ∧ cs.length ≤ 1000
/-- all but the state's own is kept -/
def Kd (d l : Addr) (H H' : Hp) : Prop := ∀ a o, a ≠ d → a ≠ l → H a = some o → H' a = some o
section
variable {d c l : Addr} {n m : Int} {H H' H1 : Hp}
theorem StAt.same (h : StAt d c l n H) (s : Same H H') : StAt d c l n H' := by
  obtain ⟨t, h1, h2, h3⟩ := h.at_
  obtain ⟨cs, ls, g1, g2, g3⟩ := h.li
  exact ⟨h.ne, ⟨t, h1, h2, s _ _ h3⟩, cs, ls, s _ _ g1, s _ _ g2, g3⟩
theorem StAt.le (h : StAt d c l n H) (s : n ≤ m) : StAt d c l m H := by
  obtain ⟨t, h1, h2, h3⟩ := h.at_
  exact ⟨h.ne, ⟨t, h1, by omega, h3⟩, h.li⟩
theorem StAt.upd {p : Addr} {o : HO} (h : StAt d c l n H) (h1 : p ≠ d) (h2 : p ≠ c) (h3 : p ≠ l) : StAt d c l n (upd H p o) := by
  obtain ⟨t, k1, k2, k3⟩ := h.at_
  obtain ⟨cs, ls, g1, g2, g3⟩ := h.li
  exact ⟨h.ne, ⟨t, k1, k2, by rw [upd_ne h1.symm]; exact k3⟩, cs, ls, by rw [upd_ne h2.symm]; exact g1, by rw [upd_ne h3.symm]; exact g2, g3⟩
theorem StAt.off (h : StAt d c l n H) {p : Addr} (hp : H p = none) : p ≠ d ∧ p ≠ c ∧ p ≠ l := by
  obtain ⟨t, k1, k2, k3⟩ := h.at_
  obtain ⟨cs, ls, g1, g2, g3⟩ := h.li
  refine ⟨fun e => ?_, fun e => ?_, fun e => ?_⟩
  · rw [e, k3] at hp; cases hp
  · rw [e, g1] at hp; cases hp
  · rw [e, g2] at hp; cases hp
theorem StAt.nc (h : StAt d c l n H) : c ≠ d := by
  obtain ⟨t, k1, k2, k3⟩ := h.at_
  obtain ⟨cs, ls, g1, g2, g3⟩ := h.li
  intro e
  rw [e, k3] at g1
  cases g1
theorem StAt.nl (h : StAt d c l n H) : l ≠ d := by
  obtain ⟨t, k1, k2, k3⟩ := h.at_
  obtain ⟨cs, ls, g1, g2, g3⟩ := h.li
  intro e
  rw [e, k3] at g2
  cases g2
theorem Kd.refl : Kd d l H H := fun _ _ _ _ h => h
theorem Kd.of (s : Same H H') : Kd d l H H' := fun a o _ _ h => s a o h
theorem Kd.trans (a : Kd d l H H1) (b : Kd d l H1 H') : Kd d l H H' := fun x o h1 h2 h => b x o h1 h2 (a x o h1 h2 h)
/-- an object that is new since -/
theorem Kd.mut {p : Addr} {o : HO} (a : Kd d l H H') (h : H p = none) : Kd d l H (upd H' p o) := fun x u h1 h2 hx => by
  rw [upd_ne (ne_of_none hx h)]
  exact a x u h1 h2 hx
theorem Kd.ts (st : StAt d c l n H) (a : Kd d l H H') : Ts H H' := fun x u hu h => by
  obtain ⟨t, k1, k2, k3⟩ := st.at_
  obtain ⟨cs, ls, g1, g2, g3⟩ := st.li
  refine a x _ (fun e => ?_) (fun e => ?_) h
  · rw [e, k3] at h; cases h; cases hu
  · rw [e, g2] at h; cases h; cases hu
theorem Ts.refl : Ts H H := fun _ _ _ h => h
theorem Ts.trans (a : Ts H H1) (b : Ts H1 H') : Ts H H' := fun x u hu h => b x u hu (a x u hu h)
theorem Ts.upd {p : Addr} {o : HO} (h : ∀ u, H p = some u → isTupO u = false) : Ts H (upd H p o) := fun x u hu hx => by
  have hne : x ≠ p := fun e => by rw [h u (e ▸ hx)] at hu; cases hu
  rw [upd_ne hne]
  exact hx
end

/-! ### a def that draws -/
/-- the state first, data behind it; k draws at most -/
def spS {α : Type} (enc : α → List PyData) (pre : α → Prop) (k : Int) (R : α → PyData → Prop) : Sp := fun vs H Q _ => ∃ (d c l : Addr) (n : Int) (a : α) (ws : List V), vs = .ref d :: ws ∧ TpAll H ws (enc a) ∧ StAt d c l n H ∧ n + k ≤ 1000000 ∧ pre a ∧
  ∀ v x H', Kd d l H H' → StAt d c l (n + k) H' → Tp H' v x → R a x → Q v H'
/-- data got by drawing -/
def EvS (te : TE) (σ : L2.St) (d c l : Addr) (n' : Int) (H : Hp) (R : PyData → Prop) : Prop := ∀ H1, Same H H1 → ∀ Q : VK, (∀ v x H2, Kd d l H1 H2 → StAt d c l n' H2 → Tp H2 v x → R x → Q v H2) → te σ H1 Q
section
variable {K : PySem.W.Frag} {σ : L2.St} {H H' : Hp} {ta tb te : TE} {t : TT} {tr : TA} {x y : PyData} {ds : List PyData} {d c l : Addr} {n n' k : Int} {R R' : PyData → Prop} {i j : Nat} {D : Ends} {tu tw tz : TS} {g : TG}
theorem EvS.mono (s : Same H H') (h : EvS te σ d c l n H R) : EvS te σ d c l n H' R := fun H1 a Q q => h H1 (s.trans a) Q q
theorem EvS.imp (h : EvS te σ d c l n H R) (z : ∀ x, R x → R' x) : EvS te σ d c l n H R' := fun H1 a Q q => h H1 a Q fun v x H2 k1 k2 k3 k4 => q v x H2 k1 k2 k3 (z x k4)
theorem e_D (st : StAt d c l n H) (h : EvD te σ H x) : EvS te σ d c l n H (· = x) := fun H1 s Q q => h H1 s Q fun v H2 s2 tv => q v x H2 (Kd.of s2) (st.same (s.trans s2)) tv rfl
theorem e_call {α : Type} {enc : α → List PyData} {pre : α → Prop} {R : α → PyData → Prop} (a : α) (hp : pre a) (hi : σ[i]? = some (some (.ref d))) (st : StAt d c l n H) (hn : n + k ≤ 1000000) (h : EvDs tr σ H (enc a)) :
    EvS (tCall (spS enc pre k R) [] E0 (tCons (tVar i) tr)) σ d c l (n + k) H (R a) := fun H1 s Q q => by
  refine ⟨.ref d, hi, h H1 s _ fun vs H2 s2 tv => ?_⟩
  refine ⟨d, c, l, n, a, vs, by rw [List.append_nil], tv, st.same (s.trans s2), hn, hp, fun v x H3 k3 st3 tv3 hr => ?_⟩
  exact q v x H3 ((Kd.of s2).trans k3) st3 tv3 hr
/-- r before, drawn behind -/
theorem e_opR {r : R2} {f : PyData → PyData} (st : StAt d c l n H) (ha : EvD ta σ H x) (hb : EvS tb σ d c l n' H R) (hr : ∀ v w y H1, Tp H1 v x → Tp H1 w y → R y → ∀ Q : VK, (∀ z, (∀ H2, Tp H2 z (f y)) → Q z H1) → r v w H1 Q) (hR : ∀ y, R y → R' (f y)) :
    EvS (tOp r ta tb) σ d c l n' H R' := fun H1 s Q q =>
  ha H1 s _ fun v H2 s2 tv => hb H2 (s.trans s2) _ fun w y H3 k3 st3 tw hy => hr v w y H3 (tv.mono' (Kd.ts (st.same (s.trans s2)) k3)) tw hy Q fun z hz => q z (f y) H3 ((Kd.of s2).trans k3) st3 (hz H3) (hR y hy)
/-- the other way round -/
theorem e_opL {r : R2} {f : PyData → PyData} (ha : EvS ta σ d c l n' H R) (hb : ∀ H1, Kd d l H H1 → StAt d c l n' H1 → EvD tb σ H1 x) (hr : ∀ v w y H1, Tp H1 v y → Tp H1 w x → R y → ∀ Q : VK, (∀ z, (∀ H2, Tp H2 z (f y)) → Q z H1) → r v w H1 Q) (hR : ∀ y, R y → R' (f y)) :
    EvS (tOp r ta tb) σ d c l n' H R' := fun H1 s Q q =>
  ha H1 s _ fun v y H2 k2 st2 tv hy => hb H2 ((Kd.of s).trans k2) st2 H2 (Same.refl _) _ fun w H3 s3 tw => hr v w y H3 (tv.mono s3) tw hy Q fun z hz => q z (f y) H3 (k2.trans (Kd.of s3)) (st2.same s3) (hz H3) (hR y hy)
def IntB (lo hi : Int) (x : PyData) : Prop := ∃ r, x = .int r ∧ lo ≤ r ∧ r ≤ hi
/-- i + drawn -/
theorem e_addR {a lo hi : Int} (st : StAt d c l n H) (ha : EvD ta σ H (.int a)) (hb : EvS tb σ d c l n' H (IntB lo hi)) : EvS (tOp (rI0 fun i j => .int (i + j)) ta tb) σ d c l n' H (IntB (a + lo) (a + hi)) :=
  e_opR (f := fun y => .int (a + unInt y)) st ha hb (fun v w y H1 tv tw hy Q q => by
    obtain ⟨r, rfl, _, _⟩ := hy
    exact ⟨a, r, tp_int tv, tp_int tw, q _ fun _ => .int _⟩) fun y hy => by
    obtain ⟨r, rfl, h1, h2⟩ := hy
    exact ⟨a + r, rfl, by omega, by omega⟩
/-- a drawn test: drawn == 0 -/
def EvBS (tt : TT) (σ : L2.St) (d c l : Addr) (n' : Int) (H : Hp) : Prop := ∀ H1, Same H H1 → ∀ Q : Bool → Hp → Prop, (∀ b H2, Kd d l H1 H2 → StAt d c l n' H2 → Q b H2) → tt σ H1 Q
theorem EvBS.mono (s : Same H H') (h : EvBS t σ d c l n H) : EvBS t σ d c l n H' := fun H1 a Q q => h H1 (s.trans a) Q q
theorem b_eq0 {lo hi : Int} {m : Int} (ha : EvS ta σ d c l n' H (IntB lo hi)) : EvBS (tTest (tOp rEq ta (tC (.int m)))) σ d c l n' H := fun H1 s Q q =>
  ha H1 s _ fun v y H2 k2 st2 tv hy => by
    obtain ⟨r, rfl, _, _⟩ := hy
    refine ⟨?_, decide (V.int r = V.int m), ?_, q _ H2 k2 st2⟩
    · rw [tp_int tv]
      rfl
    · rw [tp_int tv]
theorem s_ifS (h : EvBS t σ d c l n' H) (h1 : ∀ H1, Kd d l H H1 → StAt d c l n' H1 → tu D σ H1) (h2 : ∀ H1, Kd d l H H1 → StAt d c l n' H1 → tw D σ H1) : tIfS t tu tw D σ H := h H (Same.refl _) _ fun b H1 k st => by
  cases b with
  | true => exact h1 H1 k st
  | false => exact h2 H1 k st
theorem q_ifS (h : EvBS t σ d c l n' H) (h1 : ∀ H1, Kd d l H H1 → StAt d c l n' H1 → tu { D with nx := tz D } σ H1) (h2 : ∀ H1, Kd d l H H1 → StAt d c l n' H1 → tw { D with nx := tz D } σ H1) : tSeq (tIfS t tu tw) tz D σ H := s_ifS (D := { D with nx := tz D }) h h1 h2
theorem s_asgS (h : EvS te σ d c l n' H R) (k : ∀ v x H1, Kd d l H H1 → StAt d c l n' H1 → Tp H1 v x → R x → D.nx (σ.set i (some v)) H1) : tAsg te (gName i) D σ H := h H (Same.refl _) _ k
theorem q_asgS (h : EvS te σ d c l n' H R) (k : ∀ v x H1, Kd d l H H1 → StAt d c l n' H1 → Tp H1 v x → R x → tz D (σ.set i (some v)) H1) : tSeq (tAsg te (gName i)) tz D σ H := s_asgS (D := { D with nx := tz D }) h k
/-- for k in range(drawn) -/
theorem s_forS {tl : TE} {lo hi : Int} (h : EvS tl σ d c l n' H (IntB lo hi)) (hn : hi ≤ 100000 ∧ -100000 ≤ lo) (k : ∀ m H1, lo ≤ m → m ≤ hi → Kd d l H H1 → StAt d c l n' H1 → ∃ Pv : Nat → L2.St → Hp → Prop, Pv 0 σ H1 ∧
    (∀ (i : Nat) σ' H', (i : Int) < m → Pv i σ' H' → tu { D with nx := Pv (i + 1), ct := Pv (i + 1), bk := D.nx } (σ'.set j (some (.int (i : Int)))) H') ∧ ∀ σ' H', Pv m.toNat σ' H' → D.nx σ' H') : tFor (iRng1 (tCons tl tNil)) (gName j) tu D σ H :=
  h H (Same.refl _) _ fun v y H1 k1 st1 tv hy => by
    obtain ⟨m, rfl, h1, h2⟩ := hy
    obtain ⟨Pv, h0, hs, hd⟩ := k m H1 h1 h2 k1 st1
    refine ⟨m, by rw [tp_int tv], by omega, by omega, for_range (lo := 0) (n := m.toNat) Pv h0 (fun i σ' H' hi p => ?_) hd⟩
    have e0 : (0 : Int) + (i : Int) = (i : Int) := Int.zero_add _
    show tu { D with nx := Pv (i + 1), ct := Pv (i + 1), bk := D.nx } (σ'.set j (some (.int ((0 : Int) + (i : Int))))) H'
    rw [e0]
    exact hs i σ' H' (by omega) p
theorem q_forS {tl : TE} {lo hi : Int} (h : EvS tl σ d c l n' H (IntB lo hi)) (hn : hi ≤ 100000 ∧ -100000 ≤ lo) (k : ∀ m H1, lo ≤ m → m ≤ hi → Kd d l H H1 → StAt d c l n' H1 → ∃ Pv : Nat → L2.St → Hp → Prop, Pv 0 σ H1 ∧
    (∀ (i : Nat) σ' H', (i : Int) < m → Pv i σ' H' → tu { D with nx := Pv (i + 1), ct := Pv (i + 1), bk := tz D } (σ'.set j (some (.int (i : Int)))) H') ∧ ∀ σ' H', Pv m.toNat σ' H' → tz D σ' H') : tSeq (tFor (iRng1 (tCons tl tNil)) (gName j) tu) tz D σ H :=
  s_forS (D := { D with nx := tz D }) h hn k
end

/-! ### fixed values: dicts and lists of ints -/
section
variable {K : PySem.W.Frag} {σ : L2.St} {H H' : Hp} {ta tb tc te td ty : TE} {t : TT} {tr : TA} {x : PyData} {a p : Addr} {v w : V} {i j : Nat} {n m : Int} {D : Ends} {tu tw tz : TS} {kvs : List (Key × V)} {k : Key}
theorem ev_dget (h1 : Ev td σ H (.ref a)) (h2 : Ev ty σ H (kV k)) (h : H a = some (.dK kvs)) (hv : valV kvs k = some v) : Ev (tDGet td ty) σ H v := fun H1 e Q q =>
  h1 H1 e _ fun H2 e2 => h2 H2 (e.trans e2) _ fun H3 e3 => ⟨a, v, rfl, by rw [← hv]; exact DGet.k (((e.trans e2).trans e3) _ _ h), q H3 (e2.trans e3)⟩
theorem ev_D (h : EvD te σ H (.int n)) : Ev te σ H (.int n) := fun H1 e Q q => h H1 e Q fun v H2 s tv => by rw [tp_int tv]; exact q H2 s
theorem d_Ev (h : Ev te σ H (.int n)) : EvD te σ H (.int n) := fun H1 e Q q => h H1 e Q fun H2 s => q _ H2 s (.int n)
theorem d_ixL {ns : Row} (h1 : Ev ta σ H (.ref a)) (h : H a = some (.lst (ns.map V.int))) (h2 : EvD tb σ H (.int (j : Int))) (hj : ns[j]? = some n) : EvD (tOp (rIxL K) ta tb) σ H (.int n) := fun H1 e Q q =>
  h1 H1 e _ fun H2 e2 => h2 H2 (e.trans e2) _ fun u H3 e3 tu => ⟨a, ns.map V.int, (j : Int), .int n, rfl, tp_int tu, sql (((Same.trans e e2).trans e3) _ _ h), atI_nat (by rw [List.getElem?_map, hj]; rfl), q _ H3 (Same.trans e2 e3) (.int n)⟩
theorem d_lenL {xs : List V} (h1 : Ev ta σ H (.ref a)) (h : H a = some (.lst xs)) : EvD (tCB (rLenQ K) (tCons ta tNil)) σ H (.int (xs.length : Int)) := fun H1 e Q q =>
  h1 H1 e _ fun H2 e2 => ⟨a, xs, rfl, .inl (sql ((Same.trans e e2) _ _ h)), q _ H2 e2 (.int _)⟩
theorem q_asgE (h : Ev te σ H v) (k : ∀ H1, Same H H1 → tz D (σ.set i (some v)) H1) : tSeq (tAsg te (gName i)) tz D σ H := h H (Ex.refl _) _ k
theorem q_dputK (h1 : EvD tc σ H x) (h2 : Ev td σ H (.ref a)) (h3 : Ev ty σ H (kV k)) (h : H a = some (.dK kvs)) (hz : kvs.length < 100000) (kk : ∀ u H1, Same H H1 → Tp H1 u x → tz D σ (upd H1 a (.dK (putK kvs k u)))) : tSeq (sDPut td ty tc) tz D σ H :=
  h1 H (Same.refl _) _ fun u H1 s1 tu => h2 H1 s1 _ fun H2 s2 => h3 H2 (s1.trans s2) _ fun H3 s3 => ⟨a, _, rfl, DPut.k (((s1.trans s2).trans s3) _ _ h) (Nat.lt_of_lt_of_le hz (by decide)), kk u H3 ((s1.trans s2).trans s3) (tu.mono (Same.trans s2 s3))⟩
/-- l[j] = an int -/
theorem q_setL {ns : Row} (h1 : EvD tc σ H (.int n)) (h2 : Ev td σ H (.ref a)) (h3 : EvD ty σ H (.int (j : Int))) (h : H a = some (.lst (ns.map V.int))) (hj : j < ns.length) (kk : ∀ H1, Same H H1 → tz D σ (upd H1 a (.lst ((ns.set j n).map V.int)))) : tSeq (tAsg tc (gSub td ty rSetL)) tz D σ H :=
  h1 H (Same.refl _) _ fun u H1 s1 tu => h2 H1 s1 _ fun H2 s2 => h3 H2 (s1.trans s2) _ fun z H3 s3 tz' => ⟨a, ns.map V.int, (j : Int), j, rfl, tp_int tz', ((s1.trans s2).trans s3) _ _ h, ixN_nat (by rw [List.length_map]; exact hj), by
    have e : (ns.map V.int).set j u = (ns.set j n).map V.int := by
      rw [List.map_set, tp_int tu]
    show tz D σ (upd H3 a (.lst ((ns.map V.int).set j u)))
    rw [e]
    exact kk H3 ((s1.trans s2).trans s3)⟩
end
end Xh

/-! Dicts as sets: keys ints or rows of ints, values True; sorted. -/
namespace Xh
open PySem PySem.Spec PyProof.Rows L2 Evl

section
variable {α κ : Type} [DecidableEq α] [DecidableEq κ]
def addK (ks : List α) (k : α) : List α := if k ∈ ks then ks else ks ++ [k]
def addAll (ks ms : List α) : List α := ms.foldl addK ks
theorem mem_addK {ks : List α} {k z : α} : z ∈ addK ks k ↔ z ∈ ks ∨ z = k := by
  unfold addK
  by_cases h : k ∈ ks
  · rw [if_pos h]
    constructor
    · exact .inl
    · rintro (q | q)
      · exact q
      · exact q ▸ h
  · rw [if_neg h, List.mem_append, List.mem_singleton]
theorem nodup_addK {ks : List α} {k : α} (n : ks.Nodup) : (addK ks k).Nodup := by
  unfold addK
  by_cases h : k ∈ ks
  · rw [if_pos h]; exact n
  · rw [if_neg h]
    refine List.nodup_append.mpr ⟨n, (List.pairwise_singleton _ _), fun a ha b hb e => ?_⟩
    rw [List.mem_singleton] at hb
    exact h (by rw [← hb, ← e]; exact ha)
theorem mem_addAll {z : α} : ∀ {ms ks : List α}, z ∈ addAll ks ms ↔ z ∈ ks ∨ z ∈ ms
  | [], ks => by simp [addAll]
  | m :: ms, ks => by
    show z ∈ addAll (addK ks m) ms ↔ _
    rw [mem_addAll, mem_addK, List.mem_cons]
    exact or_assoc
theorem nodup_addAll : ∀ {ms ks : List α}, ks.Nodup → (addAll ks ms).Nodup
  | [], _, h => h
  | m :: ms, ks, h => by
    show (addAll (addK ks m) ms).Nodup
    exact nodup_addAll (nodup_addK h)
theorem len_addK (ks : List α) (k : α) : (addK ks k).length ≤ ks.length + 1 := by
  unfold addK
  split
  · omega
  · rw [List.length_append]; exact Nat.le_refl _
theorem len_addAll : ∀ (ms ks : List α), (addAll ks ms).length ≤ ks.length + ms.length
  | [], ks => Nat.le_refl _
  | m :: ms, ks => by
    have h1 := len_addAll ms (addK ks m)
    have h2 := len_addK ks m
    show (addAll (addK ks m) ms).length ≤ _
    rw [List.length_cons]
    omega
def dset (e : α → κ) (ks : List α) : List (κ × V) := ks.map fun k => (e k, V.bl true)
theorem put_dset {e : α → κ} (inj : ∀ a b, e a = e b → a = b) (ks : List α) (k : α) : putK (dset e ks) (e k) (.bl true) = dset e (addK ks k) := by
  have ea : ((dset e ks).any fun kv => decide (kv.1 = e k)) = decide (k ∈ ks) := by
    unfold dset
    rw [List.any_map]
    induction ks with
    | nil => rfl
    | cons x xs ih =>
      rw [List.any_cons, ih]
      by_cases h : k = x
      · subst h; simp
      · have h' : ¬ e x = e k := fun z => h (inj _ _ z).symm
        simp [h, h']
  unfold putK addK
  rw [ea]
  by_cases h : k ∈ ks
  · rw [if_pos (decide_eq_true h), if_pos h]
    unfold dset
    rw [List.map_map]
    refine List.map_congr_left fun x _ => ?_
    show (if (e x = e k) then (e x, V.bl true) else (e x, V.bl true)) = _
    split <;> rfl
  · rw [if_neg (by rw [decide_eq_false h]; exact Bool.false_ne_true), if_neg h]
    unfold dset
    rw [List.map_append]
    rfl
theorem merge_dset {e : α → κ} (inj : ∀ a b, e a = e b → a = b) : ∀ (ms ks : List α), (ms.map fun k => (e k, V.bl true)).foldl (fun acc kv => putK acc kv.1 kv.2) (dset e ks) = dset e (addAll ks ms)
  | [], ks => rfl
  | m :: ms, ks => by
    show (ms.map fun k => (e k, V.bl true)).foldl (fun acc kv => putK acc kv.1 kv.2) (putK (dset e ks) (e m) (.bl true)) = dset e (addAll (addK ks m) ms)
    rw [put_dset inj]
    exact merge_dset inj ms (addK ks m)
end
/-- a row as a key -/
def rowK (r : Row) : List Key := r.map Sum.inl
theorem rowK_inj (a b : Row) (h : rowK a = rowK b) : a = b := List.map_inj_right (fun x y e => Sum.inl.inj e) |>.mp h
theorem intK_inj (a b : Int) (h : (Sum.inl a : Key) = .inl b) : a = b := Sum.inl.inj h

/-! ### sorted -/
def normI (ns : Row) : Row := (norm (ns.map fun n => [n])).map fun r => r.headD 0
def UpI (ns : Row) : Prop := ns.Pairwise (· < ·)
theorem up_singles {ns : Row} (h : UpI ns) : Up (ns.map fun n => [n]) := by
  refine List.pairwise_map.mpr (List.Pairwise.imp (fun {a b} p => ?_) h)
  rw [HT.lexLt_cons, if_neg (by omega)]
  exact decide_eq_true p
theorem normI_uniq {ns ms : Row} (h : UpI ns) (hm : ∀ z, z ∈ ns ↔ z ∈ ms) : normI ms = ns := by
  unfold normI
  have e : norm (ms.map fun n => [n]) = ns.map fun n => [n] := by
    refine up_uniq (up_norm _) (up_singles h) fun z => ?_
    rw [mem_norm, List.mem_map, List.mem_map]
    constructor
    · rintro ⟨a, ha, e⟩; exact ⟨a, (hm a).mpr ha, e⟩
    · rintro ⟨a, ha, e⟩; exact ⟨a, (hm a).mp ha, e⟩
  rw [e, List.map_map]
  exact (List.map_congr_left fun _ _ => rfl).trans (List.map_id ns)
theorem upI_of {ys : Row} (h : ys.Pairwise (· ≤ ·)) (n : ys.Nodup) : UpI ys :=
  List.Pairwise.imp (fun {a b} p => by have h1 := p.1; have h2 : a ≠ b := p.2; omega) (List.Pairwise.and h n)
/-- the ints sort to an ascending row -/
theorem ex_upI (ns : Row) : ∃ ys : Row, UpI ys ∧ ∀ z, z ∈ ys ↔ z ∈ ns := by
  induction ns with
  | nil => exact ⟨[], List.Pairwise.nil, fun _ => Iff.rfl⟩
  | cons n ns ih =>
    obtain ⟨ys, h1, h2⟩ := ih
    refine ⟨ys.filter (· < n) ++ n :: ys.filter (n < ·), ?_, fun z => ?_⟩
    · refine List.pairwise_append.mpr ⟨h1.filter _, List.pairwise_cons.mpr ⟨fun a ha => of_decide_eq_true (List.mem_filter.mp ha).2, h1.filter _⟩, fun a ha b hb => ?_⟩
      have ha' : a < n := of_decide_eq_true (List.mem_filter.mp ha).2
      rcases List.mem_cons.mp hb with e | hb
      · omega
      · have hb' : n < b := of_decide_eq_true (List.mem_filter.mp hb).2
        omega
    · rw [List.mem_append, List.mem_cons, List.mem_filter, List.mem_filter, List.mem_cons, h2 z, decide_eq_true_eq, decide_eq_true_eq]
      constructor
      · rintro (h | h | h)
        · exact .inr h.1
        · exact .inl h
        · exact .inr h.1
      · rintro (h | h)
        · exact .inr (.inl h)
        · by_cases e : z < n
          · exact .inl ⟨h, e⟩
          · by_cases e2 : z = n
            · exact .inr (.inl e2)
            · exact .inr (.inr ⟨h, by omega⟩)
theorem mem_normI {ns : Row} {z : Int} : z ∈ normI ns ↔ z ∈ ns := by
  obtain ⟨ys, h1, h2⟩ := ex_upI ns
  rw [normI_uniq h1 h2]
  exact h2 z
theorem up_normI (ns : Row) : UpI (normI ns) := by
  obtain ⟨ys, h1, h2⟩ := ex_upI ns
  rw [normI_uniq h1 h2]
  exact h1
def pairI (n : Int) : PyData := .tuple [.int n, .bool true]
def pairR (r : Row) : PyData := .tuple [rowD r, .bool true]
def rDictPQ (K : PySem.W.Frag) : List V → Hp → VK → Prop := fun xs H Q => ∃ (a : Addr) (ps : List Addr) (kvs : List (Key × V)), xs = [.ref a] ∧ SqL K H a (ps.map V.ref) ∧ Paired (fun p kv => SqT K H p [kV kv.1, kv.2]) ps kvs ∧ ∀ p, H p = none → Q (.ref p) (upd H p (.dK (mergeK [] kvs)))
def rSortDIQ : List V → Hp → VK → Prop := fun xs H Q => ∃ (a : Addr) (kvs : List (Key × V)) (ks : List Int), xs = [.ref a] ∧ Rd H a (.dK kvs) ∧ kvs.map (·.1) = ks.map Sum.inl ∧ ks.length < 64 ∧
    ∀ (ys : List Int) (p : Addr), ys.Perm ks → ys.Pairwise (· ≤ ·) → H p = none → Q (.ref p) (upd H p (.lst (ys.map V.int)))
section
variable {K : PySem.W.Frag} {σ : L2.St} {H : Hp} {te : TE} {q : Addr}
/-- sorted(dict([(n, True) ..])) -/
theorem tp_pairsI {H : Hp} : ∀ {xs : List V} {ns : Row}, TpAll H xs (ns.map pairI) → ∃ ps : List Addr, xs = ps.map V.ref ∧ Paired (fun p kv => SqT K H p [kV kv.1, kv.2]) ps (ns.map fun n => ((Sum.inl n : Key), V.bl true))
  | _, [], h => by cases h; exact ⟨[], rfl, .nil⟩
  | _, n :: ns, h => by
    cases h with
    | cons h t =>
      obtain ⟨a, zs, rfl, h1, h2⟩ := tp_tup h
      obtain ⟨y, z, rfl, h3, h4⟩ := tpAll_two h2
      obtain ⟨ps, e, r⟩ := tp_pairsI t
      rw [tp_int h3, tp_bl h4] at h1
      exact ⟨a :: ps, by rw [e, List.map_cons], .cons (sqr h1) r⟩
theorem l_sortI {ns : Row} (h : EvLv te σ H (ns.map pairI)) (hz : ns.length < 64) : EvLs (tCB rSortDIQ (tCons (tCB (rDictPQ K) (tCons te tNil)) tNil)) σ H ((normI ns).map .int) := fun H1 s Q qq =>
  h H1 s _ fun p xs H2 s2 h1 h2 => by
    obtain ⟨ps, rfl, r⟩ := tp_pairsI (K := K) h2
    refine ⟨p, ps, _, rfl, sql h1, r, fun d hd => ?_⟩
    have e : mergeK [] (ns.map fun n => ((Sum.inl n : Key), V.bl true)) = dset Sum.inl (addAll [] ns) := merge_dset intK_inj ns []
    rw [e]
    have sd : Same H2 (upd H2 d (.dK (dset Sum.inl (addAll [] ns)))) := Same.new hd
    refine ⟨d, _, addAll [] ns, rfl, .inl upd_same, ?_, ?_, fun ys p' pm asc hp' => ?_⟩
    · unfold dset
      rw [List.map_map]
      rfl
    · have := len_addAll ns []
      exact Nat.lt_of_le_of_lt this (by rw [List.length_nil]; omega)
    · have nd : ys.Nodup := pm.nodup_iff.mpr (nodup_addAll List.nodup_nil)
      have ey : normI ns = ys := normI_uniq (upI_of asc nd) fun z => by
        rw [pm.mem_iff, mem_addAll]
        constructor
        · rintro (z | z)
          · simp at z
          · exact z
        · exact .inr
      refine qq p' (ys.map V.int) _ (s2.free (sd.free hp')) ((s2.trans sd).trans (Same.new hp')) upd_same (by rw [ey]; exact ints_tpAll ys)
/-- sorted(a dict of rows) -/
theorem rows_sorted {H1 : Hp} {ks : List Row} {Q : VK} (hq : H1 q = some (.dT (dset rowK ks))) (nd : ks.Nodup) (k : ∀ p xs H2, H1 p = none → Same H1 H2 → H2 p = some (.lst xs) → TpAll H2 xs ((norm ks).map rowD) → Q (.ref p) H2) : rSortDT K [.ref q] H1 Q := by
  refine ⟨q, _, ks, rfl, hq, ?_, fun L' p' pm hrow asc hp' => ?_⟩
  · unfold dset
    rw [List.map_map]
    rfl
  · have sp : Same H1 (upd H1 p' (.lst (L'.map fun q => V.ref q.1))) := Same.new hp'
    have em : L'.map (·.2) = norm ks := up_uniq (asc_up asc (pm.nodup_iff.mpr nd)) (up_norm ks) fun z => by rw [mem_norm]; exact pm.mem_iff
    have tp := rws_tp (H := upd H1 p' (.lst (L'.map fun q => V.ref q.1))) (L := L') fun p hp => sp _ _ (hrow p hp)
    rw [em] at tp
    exact k p' _ _ hp' sp upd_same tp
theorem l_sortDT {ks : List Row} (h : Ev te σ H (.ref q)) (hq : H q = some (.dT (dset rowK ks))) (nd : ks.Nodup) : EvLs (tCB (rSortDT K) (tCons te tNil)) σ H ((norm ks).map rowD) := fun H1 s Q qq =>
  h H1 s _ fun H2 s2 => rows_sorted (K := K) ((Same.trans s s2) _ _ hq) nd fun p xs H3 hp s3 h1 h2 => qq p xs H3 (Same.free s2 hp) (Same.trans s2 s3) h1 h2
theorem tp_pairsR {H : Hp} : ∀ {xs : List V} {cs : List Row}, TpAll H xs (cs.map pairR) → ∃ ps : Prs, xs = (ps.map fun p => V.ref p.1) ∧ (ps.map fun p => (p.2.1, p.2.2.2)) = cs.map (fun c => (rowK c, V.bl true)) ∧ ∀ p ∈ ps, SqT K H p.1 [.ref p.2.2.1, p.2.2.2] ∧ H p.2.2.1 = some (.tup (p.2.1.map kV))
  | _, [], h => by cases h; exact ⟨[], rfl, rfl, fun p hp => by simp at hp⟩
  | _, c :: cs, h => by
    cases h with
    | cons h t =>
      obtain ⟨a, zs, rfl, h1, h2⟩ := tp_tup h
      obtain ⟨y, z, rfl, h3, h4⟩ := tpAll_two h2
      obtain ⟨b, rfl, h5⟩ := tp_row h3
      obtain ⟨ps, e, e2, r⟩ := tp_pairsR t
      rw [tp_bl h4] at h1
      refine ⟨(a, rowK c, b, .bl true) :: ps, by rw [e, List.map_cons], by rw [List.map_cons, List.map_cons, e2], fun p hp => ?_⟩
      rcases List.mem_cons.mp hp with e | hp
      · rw [e]
        refine ⟨sqr h1, ?_⟩
        show H b = some (.tup ((rowK c).map kV))
        unfold rowK
        rw [kV_ints]
        exact h5
      · exact r p hp
theorem l_sortR {cs : List Row} (h : EvLv te σ H (cs.map pairR)) : EvLs (tCB (rSortDT K) (tCons (tCB (rDictT K) (tCons te tNil)) tNil)) σ H ((norm cs).map rowD) := fun H1 s Q qq =>
  h H1 s _ fun p xs H2 s2 h1 h2 => by
    obtain ⟨ps, rfl, e2, r⟩ := tp_pairsR (K := K) h2
    refine ⟨p, ps, rfl, sql h1, r, fun d hd => ?_⟩
    have e : mergeT (ps.map fun p => (p.2.1, p.2.2.2)) = dset rowK (addAll [] cs) := by
      rw [e2]
      exact merge_dset rowK_inj cs []
    rw [e]
    have sd : Same H2 (upd H2 d (.dT (dset rowK (addAll [] cs)))) := Same.new hd
    refine rows_sorted (K := K) upd_same (nodup_addAll List.nodup_nil) fun p' xs' H3 hp' s3 g1 g2 => ?_
    have en : norm (addAll [] cs) = norm cs := norm_congr fun z => by
      rw [mem_addAll]
      constructor
      · rintro (z | z)
        · simp at z
        · exact z
      · exact .inr
    rw [en] at g2
    exact qq p' xs' H3 (s2.free (sd.free hp')) ((s2.trans sd).trans s3) g1 g2
/-- known[row] = True -/
theorem q_dputT {td ty tc : TE} {D : Ends} {ks : List Row} {r : Row} (h1 : EvD tc σ H (.bool true)) (h2 : Ev td σ H (.ref q)) (h3 : EvD ty σ H (rowD r)) (hq : H q = some (.dT (dset rowK ks))) (hz : ks.length < 100000)
    (kk : ∀ H1, Same H H1 → H1 q = some (.dT (dset rowK ks)) → D.nx σ (upd H1 q (.dT (dset rowK (addK ks r))))) : sDPut td ty tc D σ H :=
  h1 H (Same.refl _) _ fun u H1 s1 tu => h2 H1 s1 _ fun H2 s2 => h3 H2 (Same.trans s1 s2) _ fun z H3 s3 tz' => by
    obtain ⟨b, rfl, hb⟩ := tp_row tz'
    have s : Same H H3 := Same.trans (Same.trans s1 s2) s3
    rw [tp_bl tu]
    refine ⟨q, _, rfl, DPut.t (k := rowK r) (s _ _ hq) (by unfold rowK; rw [kV_ints]; exact hb) (by unfold dset; rw [List.length_map]; exact Nat.lt_of_lt_of_le hz (by decide)), ?_⟩
    rw [put_dset rowK_inj]
    exact kk H3 s (s _ _ hq)
end
section
variable {K : PySem.W.Frag} {σ : L2.St} {H : Hp} {ta tb te : TE} {a b : Int}
theorem d_or2 (ha : EvD ta σ H (.int a)) (hb : EvD tb σ H (.int b)) : EvD (tOp (rI0 fun i j => .int (Builtin.bitOr i j)) ta tb) σ H (.int (Builtin.bitOr a b)) := d_I0 ha hb fun _ => .int _
def tTru (K : PySem.W.Frag) (te : TE) : TT := fun σ H Q => te σ H fun x H' => ∃ k, TruV K x H' k ∧ Q k H'
theorem pt_tru (K : PySem.W.Frag) {X : Cx} {e : Expr} {te : TE} (h : PE X e te) (hK : X.K = K := by rfl) (he : ∀ whole, isTrue e X.env whole = (do let v ← whole; standAt e.pos; holding [v] (truthy v)) := by intro _; rfl) : PT X e (tTru K te) := by
  subst hK
  exact pt_truth h he
theorem b_truI (h : EvD te σ H (.int a)) : EvB (tTru K te) σ H (a != 0) := fun H1 s Q q =>
  h H1 s _ fun v H2 s2 tv => ⟨a != 0, by rw [tp_int tv]; rfl, q H2 s2⟩
end
end Xh

/-! The law's own defs. -/
namespace Xh
open PySem PySem.Spec PyProof.Rows L2 Evl
section
variable {P : Program} {w : World} {K : PySem.W.Frag} {mg : Str → Option Value} {base : Heap} {t1 t2 : Tok}
abbrev s_law_mixed : Stmt := topS 29
abbrev N_law_mixed : List Str := ["cell", "k"]
theorem sc_law_mixed : FnScope N_law_mixed ["cell", "k"] (defScope s_law_mixed) := ⟨rfl, rfl, rfl, by decide +kernel, rfl, by decide +kernel, by decide +kernel⟩
-- _law_mixed: {0: 'cell', 1: 'k'}
def mixM (c k : Int) : Int := (c % 2147483647 * (48271 + 2 * k * k) + 69621 * k + 11) % 2147483647 * 69621 % 2147483629
abbrev sp_law_mixed : Sp := spD (fun a : Int × Int => [.int a.1, .int a.2]) (fun a => 0 ≤ a.2 ∧ a.2 ≤ 10000000) (fun a => .int (mixM a.1 a.2))
theorem ok_law_mixed (D : Def K mg "_law_mixed" s_law_mixed ["cell", "k"]) (B : Blt mg) : Fn P w K mg base 1 "_law_mixed" ["cell", "k"] sp_law_mixed := by
  refine D.ok sc_law_mixed (fun vs H Q E h => ?_) (fun f cdv A outer s H vs Q E hr h => ?_)
  · obtain ⟨a, t, _⟩ := h
    exact t.length
  · obtain ⟨⟨c, k⟩, t, ⟨h0, h1⟩, q⟩ := h
    obtain ⟨v, x, rfl, tv, tx⟩ := tpAll_two t
    have h0' : 0 ≤ k := h0
    have h1' : k ≤ 10000000 := h1
    refine ⟨_, (pss_cons (ps_set (i := 0) sc_law_mixed.nd rfl (Or.inl rfl) (pe_op op_mod (pe_callTy call_int1 rfl B.int (by decide +kernel) (pa_cons (pv 0) pa_nil)) pe_int))
      (pss_one (ps_ret (pe_op op_mod (pe_op op_mul (pe_op op_mod (pe_op op_add (pe_op op_add (pe_op op_mul (pv 0) (pe_op op_add pe_int (pe_op op_mul (pe_op op_mul pe_int (pv 1)) (pv 1)))) (pe_op op_mul pe_int (pv 1))) pe_int) pe_int) pe_int) pe_int)))), ?_⟩
    refine q_asg (d_mod (d_intOf (d_var rfl tv)) d_int (by decide)) fun y H1 s1 ty => ?_
    have tx1 := tx.mono s1
    have b1 : 0 ≤ c % 2147483647 := Int.emod_nonneg _ (by decide)
    have b2 : c % 2147483647 < 2147483647 := Int.emod_lt_of_pos _ (by decide)
    refine s_ret (d_mod (d_mul (d_mod (d_add (d_add (d_mul (d_var rfl ty) (d_add d_int (d_mul (d_mul d_int (d_var rfl tx1) (.inl ⟨by decide, by decide⟩)) (d_var rfl tx1) (.inr ⟨by omega, by omega⟩))) (.inl ⟨by omega, by omega⟩)) (d_mul d_int (d_var rfl tx1) (.inl ⟨by decide, by decide⟩))) d_int) d_int (by decide)) d_int (.inr ⟨by decide, by decide⟩)) d_int (by decide)) fun u H2 s2 tu => q u H2 (s1.trans s2) tu
abbrev s_law_begin : Stmt := topS 30
abbrev N_law_begin : List Str := ["script", "cells", "cell"]
theorem sc_law_begin : FnScope N_law_begin ["script"] (defScope s_law_begin) := ⟨rfl, rfl, rfl, by decide +kernel, rfl, by decide +kernel, by decide +kernel⟩
-- _law_begin: {0: 'script', 1: 'cells', 2: 'cell'}
abbrev sp_law_begin (K : PySem.W.Frag) : Sp := fun vs H Q _ => ∃ (a : Addr) (ns : Row), vs = [.ref a] ∧ SqL K H a (ns.map V.int) ∧ ns.length ≤ 63 ∧ ∀ d c l H', Same H H' → StAt d c l 0 H' → Q (.ref d) H'
theorem dpAll_ints {H : Hp} : ∀ ns : Row, DpAll K H (ns.map V.int) (ns.map .int)
  | [] => .nil
  | n :: ns => .cons (.int n) (dpAll_ints ns)
theorem lay_list (ns : Row) : SeqAt.shaped (.list (ns.map .int)) = true := by
  refine shaped_mk ?_ ?_
  · simp only [PyData.canLay0]; exact lay_ints ns
  · have := depth_ints ns
    simp only [PyData.depth]
    omega
theorem eqv_list (ns : Row) : PyData.eqv (.list (ns.map .int)) (.list []) = decide (ns = []) := by
  simp only [PyData.eqv]
  exact eqv_ints ns []
theorem pairs_E {x : Str} {te : TE} {r : List (TE × TE)} {σ : L2.St} {H : Hp} {v : V} {Q : List (V × V) → Hp → Prop} (h : Ev te σ H v) (k : ∀ H2, Same H H2 → tPairs r σ H2 fun ps H3 => Q ((.str x, v) :: ps) H3) : tPairs ((tC (.str x), te) :: r) σ H Q := h H (Ex.refl _) _ k
theorem pairs_L {x : Str} {te : TE} {r : List (TE × TE)} {σ : L2.St} {H : Hp} {ds : List PyData} {Q : List (V × V) → Hp → Prop} (h : EvLs te σ H ds) (k : ∀ p xs H2, H p = none → Same H H2 → H2 p = some (.lst xs) → TpAll H2 xs ds → tPairs r σ H2 fun ps H3 => Q ((.str x, .ref p) :: ps) H3) : tPairs ((tC (.str x), te) :: r) σ H Q := h H (Same.refl _) _ k
theorem ok_law_begin (D : Def K mg "_law_begin" s_law_begin ["script"]) (B : Blt mg) : Fn P w K mg base 1 "_law_begin" ["script"] (sp_law_begin K) := by
  refine D.ok sc_law_begin (fun vs H Q E h => ?_) (fun f cdv A outer s H vs Q E hr h => ?_)
  · obtain ⟨a, ns, rfl, _⟩ := h
    rfl
  · obtain ⟨a, ns, rfl, hS, hz, q⟩ := h
    have hu64 := hr.units
    refine ⟨_, (pss_cons (ps_set (i := 1) sc_law_begin.nd rfl (Or.inl rfl) (pe_ifExp (pt_cmpR (r := rNeD K) (op_neD hu64) (pv 0) (pe_lst pa_nil) (nomark _)) (pe_callTy call_list_of rfl B.list (by decide +kernel) (pa_cons (pv 0) pa_nil)) (pe_lst (pa_cons pe_int pa_nil))))
      (pss_one (ps_ret (pe_disp (pps_cons pe_str (pv 1) (pps_cons pe_str (pe_lc (own := [("cell", 2)]) (g := gName 2) (tt := tYes) rfl sc_law_begin.nd (pi_list (pv 1)) (blkOk_by (N := N_law_begin) (sc := defScope s_law_begin) (by decide +kernel)) (fun _ _ _ _ _ => pg_name (i := 2) sc_law_begin.nd rfl (Or.inl rfl)) (fun _ _ _ _ _ => pts_nil) (fun _ _ _ _ _ => (pe_ifExp (pt_cmpR op_ge (pv 2) (pe_op op_pow pe_int pe_int) (nomark _)) (pv 2) pe_int))) (pps_cons pe_str pe_int (pps_cons pe_str pe_int pps_nil)))) (by rfl) (by rfl) (fun z => by cases z) (by decide))))), ?_⟩
    refine q_asgL (ds := (if ns = [] then [0] else ns).map .int) (fun H1 s1 Q1 q1 => ?_) fun c xs H1 hc s1 h1 t1 => ?_
    · refine ⟨.ref a, rfl, sz (by decide), fun p hp => ⟨.list (ns.map .int), .list [], .lst (ex_l (Ex.trans s1 (Ex.new hp)) hS) (dpAll_ints ns), .lst (sql upd_same) .nil, lay_list ns, lay_list [], _, rfl, ?_⟩⟩
      rw [eqv_list]
      by_cases e : ns = []
      · rw [if_pos e] at q1
        rw [decide_eq_true e]
        exact (l_lst (σ := start N_law_begin [.ref a]) (H := H1) (ds := [.int 0]) (a_cons d_int a_nil) (by decide)) _ (Same.new hp) _ fun p2 xs H3 hp2 s3 h3 t3 => q1 p2 xs H3 ((Same.new hp : Same H1 _).free hp2) ((Same.new hp : Same H1 _).trans s3) h3 t3
      · rw [if_neg e] at q1
        rw [decide_eq_false e]
        refine ⟨.ref a, rfl, a, ns.map V.int, rfl, .inl (ex_l (Ex.trans s1 (Ex.new hp)) hS), fun p2 hp2 => ?_⟩
        exact q1 p2 (ns.map V.int) _ ((Same.new hp : Same H1 _).free hp2) ((Same.new hp : Same H1 _).trans (Same.new hp2)) upd_same (ints_tpAll ns)
    · have hcs : ∃ cs : Row, (if ns = [] then [0] else ns) = cs ∧ 0 < cs.length ∧ cs.length ≤ 63 := by
        by_cases e : ns = []
        · rw [if_pos e]; exact ⟨[0], rfl, by decide, by decide⟩
        · rw [if_neg e]
          refine ⟨ns, rfl, ?_, hz⟩
          cases ns with
          | nil => exact absurd rfl e
          | cons n r => rw [List.length_cons]; omega
      obtain ⟨cs, ecs, hc0, hc1⟩ := hcs
      rw [ecs] at t1
      have ex := tpAll_ints t1
      rw [ex] at h1
      refine fun d hd => ?_
      have sd : Same H1 (upd H1 d (.dK [])) := Same.new hd
      have h1d := sd _ _ h1
      refine pairs_E (v := .ref c) (ev_var rfl) fun H2 s2 => ?_
      have sd := sd.trans s2
      have hdd : H2 d = some (.dK []) := s2 _ _ upd_same
      have h1d := s2 _ _ h1d
      refine pairs_L (l_compIL (ns := cs) (fun _ => true) (fun n => .int (if (10 : Int) ^ (18 : Int).toNat ≤ n then n else 0)) (v_var (n := 1) rfl h1d (ints_tpAll cs)) (by omega) (fun _ => rfl) (fun _ _ _ _ _ _ => b_yes) fun n u H3 s3 hm hu _ => ?_) fun l xs H3 hl s3 h3 t3 => ?_
      · subst hu
        refine d_if (b_test (d_ge (d_var rfl (.int n)) (d_I (i := 10) (j := 18) (C := CPow) ⟨by decide, by decide, by decide⟩ d_int d_int fun _ => .int _))) (fun hb => ?_) fun hb => ?_
        · rw [if_pos (of_decide_eq_true hb)]
          exact d_var rfl (.int n)
        · rw [if_neg (of_decide_eq_false hb)]
          exact d_int
      · have et : ((cs.filter fun _ => true).map fun n => PyData.int (if (10 : Int) ^ (18 : Int).toNat ≤ n then n else 0)) = (cs.map fun n => (if (10 : Int) ^ (18 : Int).toNat ≤ n then n else 0)).map .int := by
          rw [List.filter_eq_self.mpr (fun _ _ => rfl), List.map_map]
          rfl
        rw [et] at t3
        have ex3 := tpAll_ints t3
        rw [ex3] at h3
        have hd3 : H3 d = some (.dK []) := s3 _ _ hdd
        refine ⟨hd3, [(.inr "cells", .ref c), (.inr "lefts", .ref l), (.inr "at", .int 0), (.inr "room", .int 0)], rfl, by show 4 ≤ 15; decide, ?_⟩
        have ndl : d ≠ l := fun e => by rw [e] at hd3; rw [hd3] at h3; cases h3
        have ncl : c ≠ l := fun e => by
          have := h1d
          rw [e, hl] at this
          cases this
        have ncd : c ≠ d := fun e => by rw [e, hd] at h1; cases h1
        refine q d c l _ (Same.mut (s1.trans (sd.trans s3)) (Same.free s1 hd)) ⟨ncl, ⟨0, by decide, by decide, ?_⟩, cs, cs.map fun n => (if (10 : Int) ^ (18 : Int).toNat ≤ n then n else 0), ?_, ?_, ?_, hc0, by omega⟩
        · rw [upd_same]
          rfl
        · rw [upd_ne ncd]
          exact s3 _ _ h1d
        · rw [upd_ne ndl.symm]
          exact h3
        · rw [List.length_map]
abbrev s_law_draw : Stmt := topS 31
abbrev N_law_draw : List Str := ["state", "many", "at", "place", "left", "number"]
theorem sc_law_draw : FnScope N_law_draw ["state", "many"] (defScope s_law_draw) := ⟨rfl, rfl, rfl, by decide +kernel, rfl, by decide +kernel, by decide +kernel⟩
-- _law_draw: {0: 'state', 1: 'many', 2: 'at', 3: 'place', 4: 'left', 5: 'number'}
theorem k_ca : ¬ ((Sum.inr "cells" : Key) = .inr "at") := by intro e; injection e with e; revert e; decide +kernel
theorem k_la : ¬ ((Sum.inr "lefts" : Key) = .inr "at") := by intro e; injection e with e; revert e; decide +kernel
theorem k_ra : ¬ ((Sum.inr "room" : Key) = .inr "at") := by intro e; injection e with e; revert e; decide +kernel
theorem k_cl : ¬ ((Sum.inr "cells" : Key) = .inr "lefts") := by intro e; injection e with e; revert e; decide +kernel
theorem stK_at {c l : Addr} {t : Int} : valV (stK c l t) (.inr "at") = some (.int t) := by
  unfold stK
  rw [valV_neg k_ca, valV_neg k_la, valV_pos rfl]
theorem stK_cells {c l : Addr} {t : Int} : valV (stK c l t) (.inr "cells") = some (.ref c) := by
  unfold stK
  rw [valV_pos rfl]
theorem stK_lefts {c l : Addr} {t : Int} : valV (stK c l t) (.inr "lefts") = some (.ref l) := by
  unfold stK
  rw [valV_neg k_cl, valV_pos rfl]
theorem stK_put {c l : Addr} {t : Int} {v : V} : putK (stK c l t) (.inr "at") v = [(.inr "cells", .ref c), (.inr "lefts", .ref l), (.inr "at", v), (.inr "room", .int 0)] := by
  have ha : ((stK c l t).any fun kv => decide (kv.1 = (Sum.inr "at" : Key))) = true := by
    rw [valV_any, stK_at]
    rfl
  unfold putK
  rw [if_pos ha]
  unfold stK
  rw [List.map_cons, List.map_cons, List.map_cons, List.map_cons, List.map_nil, if_neg k_ca, if_neg k_la, if_pos rfl, if_neg k_ra]
abbrev sp_law_draw : Sp := spS (fun m : Int => [.int m]) (fun m => 1 ≤ m ∧ m ≤ 1000000) 1 (fun m x => IntB 0 (m - 1) x)
theorem ok_law_draw (D : Def K mg "_law_draw" s_law_draw ["state", "many"]) (B : Blt mg) (F_law_mixed : Fn P w K mg base 1 "_law_mixed" ["cell", "k"] sp_law_mixed) : Fn P w K mg base 2 "_law_draw" ["state", "many"] sp_law_draw := by
  refine D.ok sc_law_draw (fun vs H Q E h => ?_) (fun f cdv A outer s H vs Q E hr h => ?_)
  · obtain ⟨d, c, l, n, a, ws, rfl, t, _⟩ := h
    rw [List.length_cons, t.length]
    rfl
  · obtain ⟨d, c, l, n, m, ws, rfl, t, st, hn, ⟨m1, m2⟩, q⟩ := h
    obtain ⟨v, rfl, tv⟩ := tpAll_one t
    have hu1 := hu_of hr
    refine ⟨_, (pss_cons (ps_set (i := 2) sc_law_draw.nd rfl (Or.inl rfl) (pe_dget hu1 (pv 0) pe_str (fun _ _ => rfl)))
      (pss_cons (ps_dput hu1 (pv 0) pe_str (pe_op op_add (pv 2) pe_int) rfl)
      (pss_cons (ps_set (i := 3) sc_law_draw.nd rfl (Or.inl rfl) (pe_op op_mod (pe_callTy call_int1 rfl B.int (by decide +kernel) (pa_cons (pv 2) pa_nil)) (pe_callB (r := rLenQ K) call_len_seq rfl B.len PySem.boot_len (pa_cons (pe_dget hu1 (pv 0) pe_str (fun _ _ => rfl)) pa_nil))))
      (pss_cons (ps_set (i := 4) sc_law_draw.nd rfl (Or.inl rfl) (pe_ix (r := rIxL K) ix_list (pe_dget hu1 (pv 0) pe_str (fun _ _ => rfl)) (pv 3) (fun _ _ => rfl)))
      (pss_cons (ps_if (pt_cmpR op_gt (pv 4) pe_int (nomark _)) (pss_cons (ps_asg (pe_op op_fdiv (pv 4) (pv 1)) (pg_sub (pe_dget hu1 (pv 0) pe_str (fun _ _ => rfl)) (pv 3) set_list))
      (pss_one (ps_ret (pe_op op_mod (pe_callTy call_int1 rfl B.int (by decide +kernel) (pa_cons (pv 4) pa_nil)) (pv 1))))) pss_nil)
      (pss_cons (ps_set (i := 5) sc_law_draw.nd rfl (Or.inl rfl) (pe_fn (F_law_mixed.mono (by decide)) hr (pa_cons (pe_fn (F_law_mixed.mono (by decide)) hr (pa_cons (pe_ix (r := rIxL K) ix_list (pe_dget hu1 (pv 0) pe_str (fun _ _ => rfl)) (pv 3) (fun _ _ => rfl)) (pa_cons (pv 2) pa_nil))) (pa_cons (pe_op op_add pe_int (pv 2)) pa_nil))))
      (pss_one (ps_ret (pe_op op_mod (pe_op op_fdiv (pe_callTy call_int1 rfl B.int (by decide +kernel) (pa_cons (pe_op op_add (pe_op op_mul (pv 5) pe_int) (pe_fn (F_law_mixed.mono (by decide)) hr (pa_cons (pv 5) (pa_cons (pe_op op_add pe_int (pv 2)) pa_nil)))) pa_nil)) pe_int) (pv 1)))))))))), ?_⟩
    have hm1 : 1 ≤ m := m1
    have hm2 : m ≤ 1000000 := m2
    obtain ⟨t, t0, tn, hd⟩ := st.at_
    obtain ⟨cs, ls, hc, hl, hlen, hpos, hcap⟩ := st.li
    rw [tp_int tv]
    refine q_asgE (ev_dget (k := .inr "at") (ev_var rfl) ev_c hd stK_at) fun H1 s1 => ?_
    refine q_dputK (k := .inr "at") (d_add (d_var rfl (.int t)) d_int) (ev_var rfl) ev_c (s1 _ _ hd) (by show 4 < 100000; decide) fun u H2 s2 tu => ?_
    rw [stK_put, tp_int tu]
    have ncd := st.nc
    have nld := st.nl
    have kd2 : Kd d l H (upd H2 d (.dK (stK c l (t + 1)))) := fun a o h1 h2 h => by rw [upd_ne h1]; exact s2 _ _ (s1 _ _ h)
    show _
    have hd2 : (upd H2 d (.dK (stK c l (t + 1)))) d = some (.dK (stK c l (t + 1))) := upd_same
    have hc2 : (upd H2 d (.dK (stK c l (t + 1)))) c = some (.lst (cs.map V.int)) := by rw [upd_ne ncd]; exact s2 _ _ (s1 _ _ hc)
    have hl2 : (upd H2 d (.dK (stK c l (t + 1)))) l = some (.lst (ls.map V.int)) := by rw [upd_ne nld]; exact s2 _ _ (s1 _ _ hl)
    have goalH : upd H2 d (.dK [(.inr "cells", .ref c), (.inr "lefts", .ref l), (.inr "at", .int (t + 1)), (.inr "room", .int 0)]) = upd H2 d (.dK (stK c l (t + 1))) := rfl
    rw [goalH]
    generalize upd H2 d (.dK (stK c l (t + 1))) = Hx at kd2 hd2 hc2 hl2
    have hlz : (0 : Int) < (cs.length : Int) := by omega
    obtain ⟨j, ej⟩ : ∃ j : Nat, t % (cs.length : Int) = (j : Int) := ⟨(t % (cs.length : Int)).toNat, by have := Int.emod_nonneg t (show (cs.length : Int) ≠ 0 by omega); omega⟩
    have hj : j < cs.length := by have := Int.emod_lt_of_pos t hlz; omega
    refine q_asg (EvD.is (d_mod (d_intOf (d_var rfl (.int t))) (d_lenL (ev_dget (k := .inr "cells") (ev_var rfl) ev_c hd2 stK_cells) hc2) (by rw [List.length_map]; exact hlz)) (by rw [List.length_map, ej])) fun y H3 s3 ty => ?_
    rw [tp_int ty]
    obtain ⟨z, hz⟩ : ∃ z, ls[j]? = some z := ⟨ls[j]'(by omega), List.getElem?_eq_getElem (by omega)⟩
    obtain ⟨ce, hce⟩ : ∃ z, cs[j]? = some z := ⟨cs[j]'hj, List.getElem?_eq_getElem hj⟩
    refine q_asg (d_ixL (ev_dget (k := .inr "lefts") (ev_var rfl) ev_c (s3 _ _ hd2) stK_lefts) (s3 _ _ hl2) (d_var rfl (.int _)) hz) fun y4 H4 s4 ty4 => ?_
    rw [tp_int ty4]
    have s34 := s3.trans s4
    refine q_when (b_test (d_gt (d_var rfl (.int z)) d_int)) (fun hb H5 s5 => ?_) fun hb H5 s5 => ?_
    · have s35 := s34.trans s5
      refine q_setL (d_fdiv (d_var rfl (.int z)) (d_var rfl (.int m)) ⟨by omega, by omega⟩) (ev_dget (k := .inr "lefts") (ev_var rfl) ev_c (s35 _ _ hd2) stK_lefts) (d_var rfl (.int _)) (s35 _ _ hl2) (by omega) fun H6 s6 => ?_
      have s36 := s35.trans s6
      have kd6 : Kd d l H (upd H6 l (.lst ((ls.set j (z / m)).map V.int))) := fun a o h1 h2 h => by rw [upd_ne h2]; exact s36 _ _ (kd2 a o h1 h2 h)
      have st6 : StAt d c l (n + 1) (upd H6 l (.lst ((ls.set j (z / m)).map V.int))) := ⟨st.ne, ⟨t + 1, by omega, by omega, by rw [upd_ne nld.symm]; exact s36 _ _ hd2⟩, cs, ls.set j (z / m), by rw [upd_ne st.ne]; exact s36 _ _ hc2, upd_same, by rw [List.length_set]; exact hlen, hpos, hcap⟩
      have b1 : 0 ≤ z % m := Int.emod_nonneg _ (by omega)
      have b2 : z % m < m := Int.emod_lt_of_pos _ (by omega)
      exact s_ret (d_mod (d_intOf (d_var rfl (.int z))) (d_var rfl (.int m)) (by omega)) fun r H7 s7 tr => q r _ H7 (kd6.trans (Kd.of s7)) (st6.same s7) tr ⟨_, rfl, b1, by omega⟩
    · have s35 := s34.trans s5
      refine q_asg (d_call (mixM ce t, 40 + t) ⟨by show 0 ≤ 40 + t; omega, by show 40 + t ≤ 10000000; omega⟩ (a_cons (d_call (ce, t) ⟨t0, by show t ≤ 10000000; omega⟩ (a_cons (d_ixL (ev_dget (k := .inr "cells") (ev_var rfl) ev_c (s35 _ _ hd2) stK_cells) (s35 _ _ hc2) (d_var rfl (.int _)) hce) (a_cons (d_var rfl (.int t)) a_nil))) (a_cons (d_add d_int (d_var rfl (.int t))) a_nil))) fun y6 H6 s6 ty6 => ?_
      rw [tp_int ty6]
      have s36 := s35.trans s6
      have st6 : StAt d c l (n + 1) H6 := ⟨st.ne, ⟨t + 1, by omega, by omega, s36 _ _ hd2⟩, cs, ls, s36 _ _ hc2, s36 _ _ hl2, hlen, hpos, hcap⟩
      have kd6 : Kd d l H H6 := kd2.trans (Kd.of s36)
      refine s_ret (d_mod (d_fdiv (d_intOf (d_add (d_mul (d_var rfl (.int _)) d_int (.inr ⟨by decide, by decide⟩)) (d_call (mixM (mixM ce t) (40 + t), 7 + t) ⟨by show 0 ≤ 7 + t; omega, by show 7 + t ≤ 10000000; omega⟩ (a_cons (d_var rfl (.int _)) (a_cons (d_add d_int (d_var rfl (.int t))) a_nil))))) d_int ⟨by decide, by decide⟩) (d_var rfl (.int m)) (by omega)) fun r H7 s7 tr => q r _ H7 (kd6.trans (Kd.of s7)) (st6.same s7) tr ⟨_, rfl, Int.emod_nonneg _ (by omega), ?_⟩
      have b2 := Int.emod_lt_of_pos ((mixM (mixM ce t) (40 + t) * 2147483647 + mixM (mixM (mixM ce t) (40 + t)) (7 + t)) / 64) (show 0 < m by omega)
      show _ ≤ m - 1
      exact Int.le_sub_one_of_lt b2
end
end Xh

/-! A new tuple whose object is known; its methods. -/
namespace Xh
open PySem PySem.Spec PyProof.Rows L2 Evl
section
variable {X : Cx}
/-- tuple(a list), the object known -/
def rTupZ (K : PySem.W.Frag) : List V → Hp → VK → Prop := fun xs H Q => ∃ p ys, xs = [.ref p] ∧ SqL K H p ys ∧ ∀ l o, H l = none → o.cls = .type "tuple" → o.dict = none → Q (.ref l) (upd H l (.frz o (.tup ys)))
theorem call_tupleZ : CallR X (.type "tuple") (rTupZ X.K) := by
  intro pins s σ H xs us Q I r h
  obtain ⟨p, ys, rfl, hq, q⟩ := h
  obtain ⟨u, rfl, rx⟩ := vals1 r
  cases rx
  obtain ⟨its, r', pl, hz⟩ := I.list hq
  have hlen := r'.length
  refine call_tuple_list pl.isList (fun h' kp => ?_) (by simp only [List.size_toArray] <;> omega)
  have I1 : Inv X pins σ H { s with heap := h' } := I.kept (t' := s.toks) kp
  have I2 : Inv X pins σ (upd H h'.objs.size (.frz { cls := .type "tuple", data := .seq its.toArray } (.tup ys))) { s with heap := h'.push { cls := .type "tuple", data := .seq its.toArray } } :=
    I1.laid (t' := s.toks) (fun b o e => Heap.get?_push_of_some _ e) (Nat.le_refl _) (show ObjOk X.prog X.w _ _ _ (.frz _ (.tup ys)) from ⟨Heap.get?_push_size _ rfl, hz, its, r', IsTup.new _ _⟩)
  exact ⟨.ref h'.objs.size, _, I2, rfl, q _ _ (I1.hok.fresh (Nat.le_refl _)) rfl rfl⟩
def FzT (H : Hp) (x : V) : Prop := ∃ p o u, x = .ref p ∧ H p = some (.frz o u) ∧ o.cls = .type "tuple" ∧ o.dict = none
def tBMZ (r : V → List V → Hp → VK → Prop) (to : TE) (t : TA) : TE := fun σ H Q => to σ H fun x H1 => FzT H1 x ∧ t σ H1 fun xs H2 => r x xs H2 Q
variable {o e : Expr} {es : List Expr} {to : TE} {t : TA} {name : Str} {apos cpos : Pos} {id : String} {r : V → List V → Hp → VK → Prop}
theorem pe_bmZ (pa : PlainAttrs "tuple") (slot : Slot "tuple" name id) (hty : typeOf (.builtin id) = pure (.type "method_descriptor")) (hm : MtR X id r) (ho : PE X o to) (ha : PA X (e :: es) t)
    (hbase : attributeBase o name X.env (eval o X.env) = eval o X.env := by rfl)
    (hfew : ((backTo cpos (starEach (e :: es) X.env)).all (fun x => !x.1) && (backToKw cpos (keywordEach [] X.env)).all (fun x => x.1.isSome)
      && decide ((e :: es).length + ([] : List Keyword).length + (if ([] : List Keyword).isEmpty then 0 else 1) < 30)) = true := by rfl)
    (hline : (apos.endLine == cpos.line) = true := by rfl) (hs : starEach (e :: es) X.env = (false, eval e X.env) :: starEach es X.env := by rfl) (hplain : (backTo cpos (starEach es X.env)).any (·.1) = false := by rfl) :
    PE X (.Call (.Attribute o name apos) (e :: es) [] cpos) (tBMZ r to t) := by
  refine ⟨fun pins s σ H Q I h => ?_⟩
  refine wpAny_Call_method_late hbase hfew hline rfl (thn (ho.run pins s σ H _ I h) fun v s1 ⟨x, H1, I1, r1, ty, q1⟩ => ?_)
  obtain ⟨p, ob, u, rfl, hp, hc, hd⟩ := ty
  cases r1
  obtain ⟨e1, _⟩ := (show ObjOk X.prog X.w H1 s1.heap p (.frz ob u) from I1.hok p _ hp)
  refine ⟨"tuple", id, pa, slot, hty, ⟨ob, e1, hc⟩, fun a ea => ?_, ?_⟩
  · cases ea
    exact ⟨ob, e1, hd⟩
  have hA := ha.run cpos pins s1 σ H1 _ I1 q1
  rw [hs] at hA ⊢
  refine Calls.callWith_builtin (by show (false || (backTo cpos (starEach es X.env)).any (·.1)) = false; rw [hplain] <;> rfl) (Calls.evalArgs_plain ?_)
  exact thn hA fun us s2 ⟨vs, H2, I2, r2, q2⟩ => hm pins s2 σ H2 (.ref p) vs (.ref p) us Q I2 rfl r2 q2
end
section
variable {K : PySem.W.Frag} {σ : L2.St} {H : Hp} {te ta : TE} {tr : TA} {tz : TS} {D : Ends} {i : Nat}
/-- x = (a, tuple(a list)): what stands in the second place is known -/
theorem q_asgZ {d : PyData} {es : List PyData} (h1 : EvD ta σ H d) (h : EvLv te σ H es) (hf : isFz es = true) (k : ∀ v b o xs H1, Same H H1 → Tp H1 v (.tuple [d, .tuple es]) → (∃ a u, v = .ref a ∧ H1 a = some (.tup [u, .ref b])) → H1 b = some (.frz o (.tup xs)) → o.cls = .type "tuple" → o.dict = none → TpAll H1 xs es → tz D (σ.set i (some v)) H1) :
    tSeq (tAsg (tTup (tCons ta (tCons (tCB (rTupZ K) (tCons te tNil)) tNil))) (gName i)) tz D σ H :=
  h1 H (Same.refl _) _ fun u H1 s1 tu => h H1 s1 _ fun p xs H2 s2 g1 g2 => ⟨p, xs, rfl, sql g1, fun b o hb hc hd => by
    have sb : Same H2 (upd H2 b (.frz o (.tup xs))) := Same.new hb
    refine ⟨sz (by show 2 ≤ 100000; decide), fun a ha => ?_⟩
    have sa : Same (upd H2 b (.frz o (.tup xs))) (upd (upd H2 b (.frz o (.tup xs))) a (.tup [u, .ref b])) := Same.new ha
    have hb2 := sa b _ upd_same
    have t2 := (g2.mono sb).mono sa
    exact k (.ref a) b o xs _ ((s1.trans s2).trans (sb.trans sa)) (.tup upd_same (.cons (((tu.mono s2).mono sb).mono sa) (.cons (.fz hb2 t2 hf) .nil))) ⟨a, u, rfl, upd_same⟩ hb2 hc hd t2⟩
end
end Xh

/-! The law's own defs, on: crossing, a clause. -/
namespace Xh
open PySem PySem.Spec PyProof.Rows L2 Evl
section
variable {K : PySem.W.Frag} {σ : L2.St} {H : Hp} {ta tb te tl : TE} {tz : TS} {D : Ends} {d c l p : Addr} {n n' a b : Int} {i j : Nat} {R : PyData → Prop}
/-- x = {} -/
theorem q_dnew (k : ∀ q, H q = none → tz D (σ.set i (some (.ref q))) (upd H q (.dT (dset rowK [])))) : tSeq (tAsg tDNewT (gName i)) tz D σ H := fun q hq => k q hq
def rgI (a b : Int) : Row := (List.range (b - a).toNat).map fun (i : Nat) => a + (i : Int)
theorem mem_rgI {z : Int} : z ∈ rgI a b ↔ a ≤ z ∧ z < b := by
  unfold rgI
  rw [List.mem_map]
  constructor
  · rintro ⟨i, hi, rfl⟩
    rw [List.mem_range] at hi
    omega
  · rintro ⟨h1, h2⟩
    exact ⟨(z - a).toNat, by rw [List.mem_range]; omega, by omega⟩
theorem nodup_rgI : (rgI a b).Nodup := by
  unfold rgI
  refine List.pairwise_map.mpr (List.Pairwise.imp (fun {x y} p e => ?_) (List.nodup_range (n := (b - a).toNat)))
  exact p (by omega)
theorem up_rgI : UpI (rgI a b) := by
  unfold rgI UpI
  refine List.pairwise_map.mpr (List.Pairwise.imp (fun {x y} (p : x < y) => ?_) List.pairwise_lt_range)
  omega
theorem len_rgI : (rgI a b).length = (b - a).toNat := by unfold rgI; rw [List.length_map, List.length_range]
theorem l_listRg (ha : EvD ta σ H (.int a)) (hb : EvD tb σ H (.int b)) (h : RgOk a b) : EvLs (tLstRg (tRg2 ta tb)) σ H ((rgI a b).map .int) := fun H1 s Q q =>
  ha H1 s _ fun v H2 s2 tv => hb H2 (s.trans s2) _ fun w H3 s3 tw => ⟨a, b, tp_int tv, tp_int tw, h, fun p hp => by
    have e : rgV a b = (rgI a b).map V.int := by
      unfold rgV rgI
      rw [List.map_map]
      rfl
    rw [e]
    exact q p _ _ ((s2.trans s3).free hp) ((s2.trans s3).trans (Same.new hp)) upd_same (ints_tpAll _)⟩
/-- x, y = a new list, a new list -/
theorem q_parLL {ds es : List PyData} (ha : EvLs ta σ H ds) (hb : EvLs tb σ H es) (k : ∀ p q xs ys H1, H p = none → H q = none → p ≠ q → Same H H1 → H1 p = some (.lst xs) → TpAll H1 xs ds → H1 q = some (.lst ys) → TpAll H1 ys es → tz D ((σ.set i (some (.ref p))).set j (some (.ref q))) H1) :
    tSeq (tPar i j (tCons ta (tCons tb tNil))) tz D σ H :=
  ha H (Same.refl _) _ fun p xs H1 hp s1 h1 t1 => hb H1 s1 _ fun q ys H2 hq s2 h2 t2 => ⟨.ref p, .ref q, rfl, k p q xs ys H2 hp (s1.free hq) (fun e => by rw [e, hq] at h1; cases h1) (s1.trans s2) (s2 _ _ h1) (t1.mono s2) h2 t2⟩
/-- x = l.pop(drawn) -/
theorem q_pop {ls : Row} (hσ : σ[i]? = some (some (.ref p))) (hL : H p = some (.lst (ls.map V.int))) (h1 : p ≠ d) (h2 : p ≠ l) (h : EvS ta σ d c l n' H (IntB 0 ((ls.length : Int) - 1))) (hz : ls.length ≤ 1000)
    (k : ∀ r (hr : r < ls.length) H1, Kd d l H H1 → StAt d c l n' H1 → H1 p = some (.lst (ls.map V.int)) → tz D (σ.set j (some (.int ls[r]))) (upd H1 p (.lst ((ls.eraseIdx r).map V.int)))) : tSeq (tAsg (tBM K "list" rPopAt (tVar i) (tCons ta tNil)) (gName j)) tz D σ H := by
  refine ⟨.ref p, hσ, .inl ⟨rfl, _, sql hL⟩, ?_⟩
  refine h H (Same.refl _) _ fun v x H1 k1 st1 tv hx => ?_
  obtain ⟨r, rfl, r1, r2⟩ := hx
  have hp := k1 p _ h1 h2 hL
  have hr : r.toNat < ls.length := by omega
  refine ⟨p, ls.map V.int, r, r.toNat, .int ls[r.toNat], rfl, by rw [tp_int tv], hp, by omega, by omega, ?_, ?_, ?_⟩
  · rw [List.length_map]
    exact seqIndex_of r1 (by omega)
  · rw [List.getElem?_map, List.getElem?_eq_getElem hr]
    rfl
  · have e : (ls.map V.int).eraseIdx r.toNat = (ls.eraseIdx r.toNat).map V.int := by
      rw [List.eraseIdx_eq_take_drop_succ, List.eraseIdx_eq_take_drop_succ, List.map_append, List.map_take, List.map_drop]
    show tz D (σ.set j (some (.int ls[r.toNat]))) (upd H1 p (.lst ((ls.map V.int).eraseIdx r.toNat)))
    rw [e]
    exact k r.toNat hr H1 k1 st1 hp
/-- a * [1, -1][drawn] -/
theorem e_sign (st : StAt d c l n H) (ha : EvD ta σ H (.int a)) (hb : EvS tb σ d c l n' H (IntB 0 1)) (hz : CMul a 1 ∧ CMul a (-1)) :
    EvS (tOp (rI CMul fun i j => .int (i * j)) ta (tOp (rIxL K) (tLst (tCons (tC (.int 1)) (tCons (tUn (rU fun i => .int (-i)) (tC (.int 1))) tNil))) tb)) σ d c l n' H (fun x => x = .int a ∨ x = .int (-a)) := fun H1 s Q q => by
  refine ha H1 s _ fun v H2 s2 tv => ?_
  refine (l_lst (σ := σ) (H := H2) (a_cons d_int (a_cons (d_neg d_int) a_nil)) (by show 2 ≤ 100000; decide)) H2 (Same.refl _) _ fun p xs H3 hp s3 h3 t3 => ?_
  have ex := tpAll_ints (ns := [1, -1]) t3
  rw [ex] at h3
  refine hb H3 ((s.trans s2).trans s3) _ fun w y H4 k4 st4 tw hy => ?_
  obtain ⟨r, rfl, r1, r2⟩ := hy
  have so := (st.same (s.trans s2)).off hp
  have h4 := k4 p _ so.1 so.2.2 h3
  have hk : Kd d l H1 H4 := (Kd.of (s2.trans s3)).trans k4
  by_cases e : r = 0
  · subst e
    refine ⟨p, _, 0, .int 1, rfl, tp_int tw, sql h4, atI_nat (j := 0) rfl, ?_⟩
    refine ⟨a, 1, tp_int tv, rfl, hz.1, ?_⟩
    show Q (.int (a * 1)) H4
    rw [Int.mul_one]
    exact q _ _ H4 hk st4 (.int a) (.inl rfl)
  · have e1 : r = 1 := by omega
    subst e1
    refine ⟨p, _, 1, .int (-1), rfl, tp_int tw, sql h4, atI_nat (j := 1) rfl, ?_⟩
    refine ⟨a, -1, tp_int tv, rfl, hz.2, ?_⟩
    show Q (.int (a * -1)) H4
    rw [show a * -1 = -a by omega]
    exact q _ _ H4 hk st4 (.int (-a)) (.inr rfl)
/-- l.append(drawn) -/
theorem s_append {xs : List V} (hσ : σ[i]? = some (some (.ref p))) (hL : H p = some (.lst xs)) (h1 : p ≠ d) (h2 : p ≠ l) (h : EvS te σ d c l n' H R) (hz : xs.length ≤ 10000)
    (k : ∀ v x H1, Kd d l H H1 → StAt d c l n' H1 → H1 p = some (.lst xs) → Tp H1 v x → R x → D.nx σ (upd H1 p (.lst (xs ++ [v])))) : tDrop (tBM K "list" rAppend (tVar i) (tCons te tNil)) D σ H := by
  refine ⟨.ref p, hσ, .inl ⟨rfl, _, sql hL⟩, ?_⟩
  refine h H (Same.refl _) _ fun v x H1 k1 st1 tv hx => ?_
  have hp := k1 p _ h1 h2 hL
  exact ⟨p, xs, v, rfl, rfl, hp, Nat.lt_of_le_of_lt hz (by decide), k v x H1 k1 st1 hp tv hx⟩
theorem l_sortL {cs : List Row} (h : EvLv te σ H (cs.map rowD)) (nd : cs.Nodup) : EvLs (tCB (rSortL K) (tCons te tNil)) σ H ((norm cs).map rowD) := fun H1 s Q q =>
  h H1 s _ fun p xs H2 s2 h1 h2 => by
    obtain ⟨L, rfl, e2, h3⟩ := tp_rws h2
    refine ⟨p, L, rfl, sql h1, fun p hp => sqt (h3 p hp), fun L' p' pm asc hp' => ?_⟩
    have sp : Same H2 (upd H2 p' (.lst (L'.map fun q => V.ref q.1))) := Same.new hp'
    have pm2 : (L'.map (·.2)).Perm cs := by rw [← e2]; exact pm.map _
    have em : L'.map (·.2) = norm cs := up_uniq (asc_up asc (pm2.nodup_iff.mpr nd)) (up_norm cs) fun z => by rw [mem_norm]; exact pm2.mem_iff
    have tp := rws_tp (H := upd H2 p' (.lst (L'.map fun q => V.ref q.1))) (L := L') fun p hp => sp _ _ (h3 p (pm.mem_iff.mp hp))
    rw [em] at tp
    exact q p' _ _ (s2.free hp') (s2.trans sp) upd_same tp
end
section
variable {P : Program} {w : World} {K : PySem.W.Frag} {mg : Str → Option Value} {base : Heap} {t1 t2 : Tok}
abbrev s_law_crossed : Stmt := topS 40
abbrev N_law_crossed : List Str := ["bundle", "lot", "known", "clause", "left", "literal"]
theorem sc_law_crossed : FnScope N_law_crossed ["bundle", "lot"] (defScope s_law_crossed) := ⟨rfl, rfl, rfl, by decide +kernel, rfl, by decide +kernel, by decide +kernel⟩
-- _law_crossed: {0: 'bundle', 1: 'lot', 2: 'known', 3: 'clause', 4: 'left', 5: 'literal'}
abbrev sp_law_crossed : Sp := spD (fun a : Int × List Row × Row => [bunD a.1 a.2.1, rowD a.2.2]) (fun a => a.2.1.length ≤ 1000 ∧ ∀ c ∈ a.2.1, c.length ≤ 1000) (fun a => bunD a.1 (crossM a.2.1 a.2.2))
theorem ok_law_crossed (D : Def K mg "_law_crossed" s_law_crossed ["bundle", "lot"]) (B : Blt mg) : Fn P w K mg base 1 "_law_crossed" ["bundle", "lot"] sp_law_crossed := by
  refine D.ok sc_law_crossed (fun vs H Q E h => ?_) (fun f cdv A outer s H vs Q E hr h => ?_)
  · obtain ⟨a, t, _⟩ := h
    exact t.length
  · obtain ⟨⟨n, cs, lot⟩, t, ⟨hz, hrow⟩, q⟩ := h
    obtain ⟨v, x, rfl, tv, tx⟩ := tpAll_two t
    have hu64 := hr.units
    have hu1 := hu_of hr
    refine ⟨_, (pss_cons (ps_set (i := 2) sc_law_crossed.nd rfl (Or.inl rfl) pe_dnewT)
      (pss_cons (ps_for (passes_of rfl) rfl (pi_tup (pe_ix (r := rIxT K) ix_tup (pv 0) pe_int (fun _ _ => rfl))) (pg_name (i := 3) sc_law_crossed.nd rfl (Or.inl rfl)) (pss_cons (ps_set (i := 4) sc_law_crossed.nd rfl (Or.inl rfl) (pe_callTy (r := rTupQ K) call_tuple_of rfl B.tuple (by decide +kernel) (pa_cons (pe_lc (own := [("literal", 5)]) (g := gName 5) rfl sc_law_crossed.nd (pi_tup (pv 3)) (blkOk_by (N := N_law_crossed) (sc := defScope s_law_crossed) (by decide +kernel)) (fun _ _ _ _ _ => pg_name (i := 5) sc_law_crossed.nd rfl (Or.inl rfl)) (fun _ _ _ _ _ => pts_one (pt_cmpR (r := rIn K true) op_notIn_seq (pe_callB call_abs rfl B.abs (by decide +kernel) (pa_cons (pv 5) pa_nil)) (pv 1) (by rfl))) (fun _ _ _ _ _ => (pv 5))) pa_nil)))
      (pss_one (ps_if (pt_cmpR (r := rNeD K) (op_neD hu64) (pv 4) (pe_tup pa_nil) (nomark _)) (pss_one (ps_dput hu1 (pv 2) (pv 4) pe_bl rfl)) pss_nil))))
      (pss_one (ps_ret (pe_tup (pa_cons (pe_ix (r := rIxT K) ix_tup (pv 0) pe_int (fun _ _ => rfl)) (pa_cons (pe_callTy (r := rTupQ K) call_tuple_of rfl B.tuple (by decide +kernel) (pa_cons (pe_callB (r := rSortDT K) (cr_sortDT rfl hu64) rfl B.sorted (by decide +kernel) (pa_cons (pv 2) pa_nil)) pa_nil)) pa_nil))))))), ?_⟩
    have hz : cs.length ≤ 1000 := hz
    have hrow : ∀ c ∈ cs, c.length ≤ 1000 := hrow
    refine q_dnew fun k hk => ?_
    have s0 : Same H (upd H k (.dT (dset rowK []))) := Same.new hk
    have tv0 := tv.mono s0
    refine q_forT (ds := cs.map rowD) (d_ix (ds := [.int n, rowsD cs]) (d_var rfl tv0) d_int (atI_nat (j := 1) rfl)) fun H3 s3 => ⟨fun i σ' H' => ∃ y z u ks, σ' = [some v, some x, some (.ref k), y, z, u] ∧ Same H H' ∧ Ts H3 H' ∧ H' k = some (.dT (dset rowK ks)) ∧ ks.Nodup ∧ ks.length ≤ i ∧ ∀ r, r ∈ ks ↔ r ∈ (cs.take i).map (cutRow lot) ∧ r ≠ [],
      ⟨none, none, none, [], rfl, s0.trans s3, Ts.refl, s3 _ _ upd_same, List.nodup_nil, Nat.le_refl _, fun r => by simp⟩, fun i σ' H' _ p => ?_, fun i z d σ' H' hi tz p => ?_, fun σ' H' p => ?_⟩
    · obtain ⟨_, _, _, _, _, _, h, _⟩ := p
      exact h
    · obtain ⟨y, z', u, ks, rfl, sH, tH, hkH, nd, hl, mem⟩ := p
      rw [List.getElem?_map] at hi
      cases hc : cs[i]? with
      | none => rw [hc] at hi; cases hi
      | some c =>
        rw [hc] at hi
        have hi' : rowD c = d := Option.some.inj hi
        subst hi'
        have hiz : i < cs.length := (List.getElem?_eq_some_iff.mp hc).1
        have et : cs.take (i + 1) = cs.take i ++ [c] := by rw [List.take_add_one, hc]; rfl
        refine q_asg (d := rowD (cutRow lot c)) (d_tupOf (EvLs.v (l_compI (fun l => !decide (iabs l ∈ lot)) .int (d_var rfl tz) (Nat.le_trans (hrow c (List.mem_of_getElem? hc)) (by decide)) (fun _ => rfl) (fun l z H1 s1 hm hz => ?_) fun l z H1 s1 hm hz _ => ?_))) fun w H1 s1 tw => ?_
        · subst hz
          exact b_test (d_niR (d_abs (d_var rfl (.int _))) (d_var rfl (tx.mono (sH.trans s1))))
        · subst hz
          exact d_var rfl (.int _)
        · refine s_when (b_test (d_neRow (x := cutRow lot c) (y := []) (d_var rfl tw) (d_tup a_nil (by decide)))) (fun hb H2 s2 => ?_) fun hb H2 s2 => ?_
          · have hne : cutRow lot c ≠ [] := of_decide_eq_false (by simpa using hb)
            refine q_dputT (ks := ks) (r := cutRow lot c) d_bl (ev_var rfl) (d_var rfl (tw.mono s2)) ((s1.trans s2) _ _ hkH) (by omega) fun H4 s4 h4 => ?_
            have sx := (s1.trans s2).trans s4
            refine ⟨_, _, _, addK ks (cutRow lot c), rfl, Same.mut (sH.trans sx) hk, (tH.trans (Same.ts sx)).trans (Ts.upd fun u hu => ?_), upd_same, nodup_addK nd, Nat.le_trans (len_addK _ _) (by omega), fun r => ?_⟩
            · rw [h4] at hu
              cases hu
              rfl
            · rw [mem_addK, mem r, et, List.map_append, List.mem_append, List.map_singleton, List.mem_singleton]
              constructor
              · rintro (h | h)
                · exact ⟨.inl h.1, h.2⟩
                · exact ⟨.inr h, h ▸ hne⟩
              · rintro ⟨h | h, h2⟩
                · exact .inl ⟨h, h2⟩
                · exact .inr h
          · have he : cutRow lot c = [] := of_decide_eq_true (by simpa using hb)
            have sx := s1.trans s2
            refine ⟨_, _, _, ks, rfl, sH.trans sx, tH.trans (Same.ts sx), sx _ _ hkH, nd, by omega, fun r => ?_⟩
            rw [mem r, et, List.map_append, List.mem_append, List.map_singleton, List.mem_singleton, he]
            constructor
            · rintro ⟨h, h2⟩
              exact ⟨.inl h, h2⟩
            · rintro ⟨h | h, h2⟩
              · exact ⟨h, h2⟩
              · exact absurd h h2
    · obtain ⟨y, z', u, ks, rfl, sH, tH, hkH, nd, hl, mem⟩ := p
      rw [List.length_map, List.take_length] at mem
      have e : norm ks = crossM cs lot := norm_congr fun r => by
        rw [mem r, List.mem_filter]
        simp
      refine s_ret (EvD.is (d_tup (a_cons (d_ix (ds := [.int n, rowsD cs]) (d_var rfl (tv.mono sH)) d_int (atI_nat (j := 0) rfl)) (a_cons (d_tupOf (l_sortDT (ev_var rfl) hkH nd).v) a_nil)) (by show 2 ≤ 100000; decide)) (by rw [e]; rfl)) fun y H4 s4 ty => q y H4 (sH.trans s4) ty
end
end Xh

/-! The law's own defs, on: a drawn clause. -/
namespace Xh
open PySem PySem.Spec PyProof.Rows L2 Evl
theorem len_insR (x : Row) : ∀ l : List Row, (insR x l).length ≤ l.length + 1
  | [] => Nat.le_refl _
  | y :: ys => by
    unfold insR
    have := len_insR x ys
    split
    · exact Nat.le_refl _
    · split
      · rw [List.length_cons]; omega
      · rw [List.length_cons, List.length_cons]; omega
theorem len_norm : ∀ l : List Row, (norm l).length ≤ l.length
  | [] => Nat.le_refl _
  | y :: ys => by
    have h1 := len_norm ys
    have h2 := len_insR y (norm ys)
    show (insR y (norm ys)).length ≤ _
    rw [List.length_cons]
    omega
theorem nodup_at {α : Type} {l : List α} (h : l.Nodup) {i j : Nat} (hi : i < l.length) (hj : j < l.length) (e : l[i] = l[j]) : i = j := by
  have h' := List.pairwise_iff_getElem.mp h
  rcases Nat.lt_trichotomy i j with q | q | q
  · exact absurd e (h' i j hi hj q)
  · exact q
  · exact absurd e.symm (h' j i hj hi q)
theorem not_mem_erase {α : Type} {l : List α} (h : l.Nodup) {r : Nat} (hr : r < l.length) : ¬ l[r] ∈ l.eraseIdx r := by
  intro m
  obtain ⟨i, hi, hne, e⟩ := List.mem_eraseIdx_iff_getElem.mp m
  exact hne (nodup_at h hi hr e)
theorem inj_nodup {α β : Type} {f : α → β} : ∀ {l : List α}, (l.map f).Nodup → ∀ x ∈ l, ∀ y ∈ l, f x = f y → x = y
  | [], _, x, hx, _, _, _ => by simp at hx
  | a :: l, h, x, hx, y, hy, e => by
    rw [List.map_cons] at h
    obtain ⟨h1, h2⟩ := List.pairwise_cons.mp h
    rcases List.mem_cons.mp hx with ex | hx
    · rcases List.mem_cons.mp hy with ey | hy
      · rw [ex, ey]
      · exact absurd (by rw [← e, ex]) (h1 (f y) (List.mem_map.mpr ⟨y, hy, rfl⟩))
    · rcases List.mem_cons.mp hy with ey | hy
      · exact absurd (by rw [e, ey]) (h1 (f x) (List.mem_map.mpr ⟨x, hx, rfl⟩))
      · exact inj_nodup h2 x hx y hy e
structure ClOk (names : Int) (ls : Row) (ps : List (Int × Int)) (i : Nat) : Prop where
  nd : ls.Nodup
  rng : ∀ a ∈ ls, 1 ≤ a ∧ a ≤ names
  len : ls.length + i = names.toNat
  plen : ps.length = i
  prng : ∀ p ∈ ps, 1 ≤ p.1 ∧ p.1 ≤ names ∧ (p.2 = p.1 ∨ p.2 = -p.1) ∧ ¬ p.1 ∈ ls
  pnd : (ps.map (·.1)).Nodup
theorem ClOk.step {names : Int} {ls : Row} {ps : List (Int × Int)} {i r : Nat} {s : Int} (h : ClOk names ls ps i) (hr : r < ls.length) (hs : s = ls[r] ∨ s = -ls[r]) : ClOk names (ls.eraseIdx r) (ps ++ [(ls[r], s)]) (i + 1) where
  nd := List.Pairwise.sublist (List.eraseIdx_sublist _ _) h.nd
  rng := fun a ha => h.rng a ((List.eraseIdx_sublist _ _).subset ha)
  len := by
    have := h.len
    rw [List.length_eraseIdx_of_lt hr]
    omega
  plen := by rw [List.length_append, h.plen]; rfl
  prng := fun p hp => by
    rcases List.mem_append.mp hp with hp | hp
    · obtain ⟨h1, h2, h3, h4⟩ := h.prng p hp
      exact ⟨h1, h2, h3, fun m => h4 ((List.eraseIdx_sublist _ _).subset m)⟩
    · rw [List.mem_singleton] at hp
      subst hp
      have := h.rng ls[r] (List.getElem_mem hr)
      exact ⟨this.1, this.2, hs, not_mem_erase h.nd hr⟩
  pnd := by
    rw [List.map_append, List.map_singleton]
    refine List.nodup_append.mpr ⟨h.pnd, List.pairwise_singleton _ _, fun a ha b hb e => ?_⟩
    rw [List.mem_singleton] at hb
    obtain ⟨p, hp, rfl⟩ := List.mem_map.mp ha
    refine (h.prng p hp).2.2.2 ?_
    rw [show p.1 = ls[r] from e.trans hb]
    exact List.getElem_mem hr
theorem iabs_of {a s : Int} (h : s = a ∨ s = -a) (h1 : 1 ≤ a) : iabs s = a := by
  unfold iabs
  split <;> omega
theorem cl_okD {names : Int} : ∀ (rs : List Row) (last : Int), Up rs → (∀ r ∈ rs, ∃ a s, r = [a, s] ∧ 1 ≤ a ∧ a ≤ names ∧ (s = a ∨ s = -a) ∧ last < a) → (∀ r ∈ rs, ∀ q ∈ rs, r.getD 0 0 = q.getD 0 0 → r = q) →
    okD names last (rs.map fun r => PyData.int (r.getD 1 0)) = true
  | [], _, _, _, _ => rfl
  | r :: rs, last, hu, hr, hi => by
    obtain ⟨u1, u2⟩ := List.pairwise_cons.mp hu
    obtain ⟨a, s, rfl, a1, a2, a3, a4⟩ := hr r List.mem_cons_self
    have ih := cl_okD rs a u2 (fun q hq => by
      obtain ⟨b, t, rfl, b1, b2, b3, b4⟩ := hr q (List.mem_cons_of_mem _ hq)
      refine ⟨b, t, rfl, b1, b2, b3, ?_⟩
      have p := u1 _ hq
      rw [HT.lexLt_cons] at p
      by_cases e : a = b
      · have := hi _ List.mem_cons_self _ (List.mem_cons_of_mem _ hq) e
        have e2 := u1 _ hq
        rw [← this, lex_irr] at e2
        cases e2
      · rw [if_neg e] at p
        exact of_decide_eq_true p) fun x hx y hy => hi x (List.mem_cons_of_mem _ hx) y (List.mem_cons_of_mem _ hy)
    show (litB names s && !decide (iabs s ≤ last) && okD names (iabs s) (rs.map fun r => PyData.int (r.getD 1 0))) = true
    unfold litB
    rw [iabs_of a3 a1, ih, decide_eq_true a1, decide_eq_true a2, decide_eq_false (by omega)]
    rfl
section
variable {K : PySem.W.Frag} {σ : L2.St} {H : Hp} {ta tb te tl : TE} {tz : TS} {D : Ends} {d c l p : Addr} {n n' a b : Int} {i j : Nat} {R : PyData → Prop}
theorem e_pair (st : StAt d c l n H) (ha : EvD ta σ H (.int a)) (hb : EvS tb σ d c l n' H R) (hR : ∀ x, R x → x = .int a ∨ x = .int (-a)) : EvS (tTup (tCons ta (tCons tb tNil))) σ d c l n' H (fun x => ∃ s, (s = a ∨ s = -a) ∧ x = rowD [a, s]) := fun H1 s Q q =>
  ha H1 s _ fun v H2 s2 tv => hb H2 (s.trans s2) _ fun w y H3 k3 st3 tw hy => ⟨sz (by show 2 ≤ 100000; decide), fun p hp => by
    have sp : Same H3 (upd H3 p (.tup [v, w])) := Same.new hp
    obtain ⟨s, hs, e⟩ : ∃ s, (s = a ∨ s = -a) ∧ y = .int s := by
      rcases hR y hy with e | e
      · exact ⟨a, .inl rfl, e⟩
      · exact ⟨-a, .inr rfl, e⟩
    subst e
    refine q (.ref p) (rowD [a, s]) _ (((Kd.of s2).trans k3).trans (Kd.of sp)) (st3.same sp) (.tup upd_same (.cons ?_ (.cons (tw.mono sp) .nil))) ⟨s, hs, rfl⟩
    rw [tp_int tv]
    exact .int a⟩
end
section
variable {P : Program} {w : World} {K : PySem.W.Frag} {mg : Str → Option Value} {base : Heap} {t1 t2 : Tok}
abbrev s_law_clause : Stmt := topS 41
abbrev N_law_clause : List Str := ["state", "names", "left", "got", "k", "name", "pair"]
theorem sc_law_clause : FnScope N_law_clause ["state", "names"] (defScope s_law_clause) := ⟨rfl, rfl, rfl, by decide +kernel, rfl, by decide +kernel, by decide +kernel⟩
-- _law_clause: {0: 'state', 1: 'names', 2: 'left', 3: 'got', 4: 'k', 5: 'name', 6: 'pair'}
abbrev sp_law_clause : Sp := spS (fun n : Int => [.int n]) (fun n => 1 ≤ n ∧ n ≤ 7) 20 (fun n x => ∃ c : Row, x = rowD c ∧ rowDB n (rowD c) = true)
theorem ok_law_clause (D : Def K mg "_law_clause" s_law_clause ["state", "names"]) (B : Blt mg) (F_law_draw : Fn P w K mg base 2 "_law_draw" ["state", "many"] sp_law_draw) : Fn P w K mg base 3 "_law_clause" ["state", "names"] sp_law_clause := by
  refine D.ok sc_law_clause (fun vs H Q E h => ?_) (fun f cdv A outer s H vs Q E hr h => ?_)
  · obtain ⟨d, c, l, n, a, ws, rfl, t, _⟩ := h
    rw [List.length_cons, t.length]
    rfl
  · obtain ⟨d, c, l, n0, names, ws, rfl, t, st, hn, ⟨hm1, hm2⟩, q⟩ := h
    obtain ⟨v, rfl, tv⟩ := tpAll_one t
    have hu64 := hr.units
    refine ⟨_, (pss_cons (ps_par (i := 2) (j := 3) rfl sc_law_clause.nd rfl rfl (by decide) rfl rfl (pa_cons (pe_listRg rfl rfl B.list (prg_2 rfl B.range pe_int (pe_op op_add (pv 1) pe_int))) (pa_cons (pe_lst pa_nil) pa_nil)) (by rfl))
      (pss_cons (ps_for (passes_of rfl) rfl (pi_range1 rfl B.range (pa_cons (pe_op op_add pe_int (pe_fn (F_law_draw.mono (by decide)) hr (pa_cons (pv 0) (pa_cons (pe_callB (call_min2 rfl) rfl B.min (by decide +kernel) (pa_cons pe_int (pa_cons (pv 1) pa_nil))) pa_nil)))) pa_nil)) (pg_name (i := 4) sc_law_clause.nd rfl (Or.inl rfl)) (pss_cons (ps_set (i := 5) sc_law_clause.nd rfl (Or.inl rfl) (pe_bm PySem.F.plainAttrs_list PySem.F.slot_list_pop PySem.F.type_list_pop mt_popAt (pv 2) (pa_cons (pe_fn (F_law_draw.mono (by decide)) hr (pa_cons (pv 0) (pa_cons (pe_callB (r := rLenQ K) call_len_seq rfl B.len PySem.boot_len (pa_cons (pv 2) pa_nil)) pa_nil))) pa_nil)))
      (pss_one (ps_expr (pe_bm PySem.F.plainAttrs_list PySem.F.slot_list_append PySem.F.type_list_append mt_append (pv 3) (pa_cons (pe_tup (pa_cons (pv 5) (pa_cons (pe_op op_mul (pv 5) (pe_ix (r := rIxL K) ix_list (pe_lst (pa_cons pe_int (pa_cons (pe_un un_neg pe_int) pa_nil))) (pe_fn (F_law_draw.mono (by decide)) hr (pa_cons (pv 0) (pa_cons pe_int pa_nil))) (fun _ _ => rfl))) pa_nil))) pa_nil))))))
      (pss_one (ps_ret (pe_callTy (r := rTupQ K) call_tuple_of rfl B.tuple (by decide +kernel) (pa_cons (pe_lc (own := [("pair", 6)]) (g := gName 6) (tt := tYes) rfl sc_law_clause.nd (pi_list (pe_callB (r := rSortL K) (cr_sortL hu64) rfl B.sorted (by decide +kernel) (pa_cons (pv 3) pa_nil))) (blkOk_by (N := N_law_clause) (sc := defScope s_law_clause) (by decide +kernel)) (fun _ _ _ _ _ => pg_name (i := 6) sc_law_clause.nd rfl (Or.inl rfl)) (fun _ _ _ _ _ => pts_nil) (fun _ _ _ _ _ => (pe_ix (r := rIxT K) ix_tup (pv 6) pe_int (fun _ _ => rfl)))) pa_nil)))))), ?_⟩
    have hm1 : 1 ≤ names := hm1
    have hm2 : names ≤ 7 := hm2
    rw [tp_int tv]
    refine q_parLL (l_listRg (a := 1) (b := names + 1) d_int (d_add (d_var rfl (.int names)) d_int) (RgOk.of_le (by decide) (by omega) (by decide) (by omega))) (l_lst a_nil (by decide)) fun L G xs ys H1 hL hG neLG s1 h1 t1 h2 t2 => ?_
    have st1 := st.same s1
    have oL := st.off hL
    have oG := st.off hG
    rw [tpAll_ints t1] at h1
    refine q_forS (lo := 1) (hi := names) (EvS.imp (e_addR st1 d_int (e_call (if names < 4 then names else 4) ⟨by split <;> omega, by split <;> omega⟩ rfl st1 (by omega) (a_cons (d_min2 d_int (d_var rfl (.int names))) a_nil))) fun x hx => ?_) ⟨by omega, by decide⟩ fun m H2 mm1 mm2 k2 st2 => ⟨fun i σ' H' => ∃ y4 y5 y6 ls ps xs, σ' = [some (.ref d), some (.int names), some (.ref L), some (.ref G), y4, y5, y6] ∧ Kd d l H H' ∧ StAt d c l (n0 + 1 + 2 * (i : Int)) H' ∧
      H' L = some (.lst (ls.map V.int)) ∧ H' G = some (.lst xs) ∧ TpAll H' xs (ps.map fun p : Int × Int => rowD [p.1, p.2]) ∧ ClOk names ls ps i, ?_, fun i σ' H' hi p => ?_, fun σ' H' p => ?_⟩
    · obtain ⟨r, rfl, r1, r2⟩ := hx
      refine ⟨r, rfl, by omega, ?_⟩
      split at r2 <;> omega
    · refine ⟨none, none, none, rgI 1 (names + 1), [], [], rfl, (Kd.of s1).trans k2, st2.le (by omega), k2 _ _ oL.1 oL.2.2 h1, ?_, .nil, ⟨nodup_rgI, fun a ha => ?_, ?_, rfl, fun p hp => by simp at hp, List.nodup_nil⟩⟩
      · cases t2
        exact k2 _ _ oG.1 oG.2.2 h2
      · have := mem_rgI.mp ha
        omega
      · rw [len_rgI]
        omega
    · obtain ⟨y4, y5, y6, ls, ps, xs, rfl, k, st', hL', hG', tG, ok⟩ := p
      have hlen := ok.len
      have hpos : i < names.toNat := by omega
      refine q_pop (d := d) (c := c) (l := l) (n' := n0 + 1 + 2 * (i : Int) + 1) rfl hL' oL.1 oL.2.2 (EvS.imp (e_call (ls.length : Int) ⟨by omega, by omega⟩ rfl st' (by omega) (a_cons (EvD.is (d_lenL (ev_var rfl) hL') (by rw [List.length_map])) a_nil)) fun x hx => hx) (by omega) fun r hr' H3 k3 st3 h3 => ?_
      have hG3 := k3 _ _ oG.1 oG.2.2 hG'
      have tG3 := tG.mono' (Kd.ts st' k3)
      have ts4 : Ts H3 (upd H3 L (.lst ((ls.eraseIdx r).map V.int))) := Ts.upd fun u hu => by rw [h3] at hu; cases hu; rfl
      have st4 := st3.upd (o := .lst ((ls.eraseIdx r).map V.int)) oL.1 oL.2.1 oL.2.2
      have hL4 : (upd H3 L (.lst ((ls.eraseIdx r).map V.int))) L = some (.lst ((ls.eraseIdx r).map V.int)) := upd_same
      have hG4 : (upd H3 L (.lst ((ls.eraseIdx r).map V.int))) G = some (.lst xs) := by rw [upd_ne neLG.symm]; exact hG3
      have k4 : Kd d l H (upd H3 L (.lst ((ls.eraseIdx r).map V.int))) := (k.trans k3).mut hL
      have tG4 := tG3.mono' ts4
      generalize upd H3 L (.lst ((ls.eraseIdx r).map V.int)) = H4 at st4 hL4 hG4 k4 tG4
      have hrng := ok.rng ls[r] (List.getElem_mem hr')
      have hplen := ok.plen
      have hxl := tG4.length
      rw [List.length_map] at hxl
      refine s_append (d := d) (c := c) (l := l) (n' := n0 + 1 + 2 * (i : Int) + 1 + 1) (xs := xs) rfl hG4 oG.1 oG.2.2 (e_pair (a := ls[r]) st4 (d_var rfl (.int _)) (e_sign st4 (d_var rfl (.int _)) (e_call (2 : Int) ⟨by decide, by decide⟩ rfl st4 (by omega) (a_cons d_int a_nil)) ⟨.inr ⟨by decide, by decide⟩, .inr ⟨by decide, by decide⟩⟩) fun x hx => hx) (by omega) fun v x H5 k5 st5 h5 tv5 hx => ?_
      obtain ⟨s, hs, rfl⟩ := hx
      have ts6 : Ts H5 (upd H5 G (.lst (xs ++ [v]))) := Ts.upd fun u hu => by rw [h5] at hu; cases hu; rfl
      refine ⟨_, _, _, ls.eraseIdx r, ps ++ [(ls[r], s)], xs ++ [v], rfl, (k4.trans k5).mut hG, (st5.upd oG.1 oG.2.1 oG.2.2).le (by omega), ?_, upd_same, ?_, ok.step hr' hs⟩
      · rw [upd_ne neLG]
        exact k5 _ _ oL.1 oL.2.2 hL4
      · rw [List.map_append, List.map_singleton]
        exact ((tG4.mono' (Kd.ts st4 k5)).mono' ts6).append (.cons (tv5.mono' ts6) .nil)
    · obtain ⟨y4, y5, y6, ls, ps, xs, rfl, k, st', hL', hG', tG, ok⟩ := p
      have eR : (ps.map fun p : Int × Int => rowD [p.1, p.2]) = (ps.map fun p : Int × Int => [p.1, p.2]).map rowD := by rw [List.map_map]; rfl
      rw [eR] at tG
      have hshape : ∀ r ∈ norm (ps.map fun p : Int × Int => [p.1, p.2]), ∃ p ∈ ps, r = [p.1, p.2] := fun r hr => by
        obtain ⟨p, hp, e⟩ := List.mem_map.mp (mem_norm.mp hr)
        exact ⟨p, hp, e.symm⟩
      have hnd : (ps.map fun p : Int × Int => [p.1, p.2]).Nodup := by
        refine List.pairwise_map.mpr (List.Pairwise.imp (fun {x y} p e => ?_) (List.pairwise_map.mp ok.pnd))
        injection e with e1 _
        exact p e1
      refine s_ret (EvD.is (e := rowD ((norm (ps.map fun p : Int × Int => [p.1, p.2])).map fun r => r.getD 1 0)) (d_tupOf (EvLs.v (l_compRsL (cs := norm (ps.map fun p : Int × Int => [p.1, p.2])) (fun _ => true) (fun r => .int (r.getD 1 0)) (l_sortL (v_var rfl hG' tG) hnd).v ?_ (fun _ => rfl) (fun _ _ _ _ _ _ => b_yes) fun r u H3 s3 hm tu _ => ?_))) ?_) fun y H4 s4 ty => q y _ H4 (k.trans (Kd.of s4)) ((st'.same s4).le (by omega)) ty ⟨_, rfl, ?_⟩
      · have := len_norm (ps.map fun p : Int × Int => [p.1, p.2])
        rw [List.length_map] at this
        have := ok.plen
        omega
      · obtain ⟨p, hp, rfl⟩ := hshape r hm
        exact d_ix (ds := [.int p.1, .int p.2]) (d_var rfl tu) d_int (atI_nat (j := 1) rfl)
      · rw [List.filter_eq_self.mpr (fun _ _ => rfl)]
        unfold rowD
        rw [List.map_map]
        rfl
      · show okD names 0 (((norm (ps.map fun p : Int × Int => [p.1, p.2])).map fun r => r.getD 1 0).map .int) = true
        rw [List.map_map]
        refine cl_okD _ 0 (up_norm _) (fun r hr => ?_) fun r hr q hq e => ?_
        · obtain ⟨p, hp, rfl⟩ := hshape r hr
          obtain ⟨h1, h2, h3, _⟩ := ok.prng p hp
          exact ⟨p.1, p.2, rfl, h1, h2, h3, by omega⟩
        · obtain ⟨p, hp, rfl⟩ := hshape r hr
          obtain ⟨p', hp', rfl⟩ := hshape q hq
          rw [inj_nodup ok.pnd p hp p' hp' e]
end
end Xh

/-! The law's own defs, on: a drawn bundle. -/
namespace Xh
open PySem PySem.Spec PyProof.Rows L2 Evl
def Kn (names : Int) (k : Addr) (m : Nat) (H : Hp) : Prop := ∃ ks : List Row, H k = some (.dT (dset rowK ks)) ∧ ks.Nodup ∧ (∀ r ∈ ks, rowDB names (rowD r) = true) ∧ ks.length ≤ m
theorem Kn.same {names : Int} {k : Addr} {m : Nat} {H H' : Hp} (h : Kn names k m H) (s : H k = H' k) : Kn names k m H' := by
  obtain ⟨ks, h1, h2⟩ := h
  exact ⟨ks, by rw [← s]; exact h1, h2⟩
theorem Kn.kd {names : Int} {k d c l : Addr} {m : Nat} {H H' : Hp} (h : Kn names k m H) (s : Kd d l H H') (o : k ≠ d ∧ k ≠ c ∧ k ≠ l) : Kn names k m H' := by
  obtain ⟨ks, h1, h2⟩ := h
  exact ⟨ks, s _ _ o.1 o.2.2 h1, h2⟩
theorem Kn.le {names : Int} {k : Addr} {m m' : Nat} {H : Hp} (h : Kn names k m H) (s : m ≤ m') : Kn names k m' H := by
  obtain ⟨ks, h1, h2, h3, h4⟩ := h
  exact ⟨ks, h1, h2, h3, Nat.le_trans h4 s⟩
theorem row1 {n x : Int} (h1 : 1 ≤ iabs x) (h2 : iabs x ≤ n) : rowDB n (rowD [x]) = true := by
  show (litB n x && !decide (iabs x ≤ 0) && true) = true
  unfold litB
  rw [decide_eq_true h1, decide_eq_true h2, decide_eq_false (by omega)]
  rfl
theorem row2 {n x y : Int} (h1 : 1 ≤ iabs x) (h2 : iabs x < iabs y) (h3 : iabs y ≤ n) : rowDB n (rowD [x, y]) = true := by
  show (litB n x && !decide (iabs x ≤ 0) && (litB n y && !decide (iabs y ≤ iabs x) && true)) = true
  unfold litB
  rw [decide_eq_true h1, decide_eq_true (show iabs x ≤ n by omega), decide_eq_false (show ¬ iabs x ≤ 0 by omega), decide_eq_true (show 1 ≤ iabs y by omega), decide_eq_true h3, decide_eq_false (show ¬ iabs y ≤ iabs x by omega)]
  rfl
theorem row0 {n : Int} : rowDB n (rowD []) = true := rfl
section
variable {K : PySem.W.Frag} {σ : L2.St} {H H0 : Hp} {ta tb te ty tl : TE} {tz : TS} {D : Ends} {d c l p k : Addr} {n n' n1 n2 a b names lo hi lo' hi' : Int} {i j m : Nat} {R : PyData → Prop}
/-- known[drawn row] = True -/
theorem s_put (k0 : H0 k = none) (kd : Kd d l H0 H) (st : StAt d c l n H) (off : k ≠ d ∧ k ≠ c ∧ k ≠ l) (kn : Kn names k m H) (hm : m ≤ 1000) (hσ : σ[i]? = some (some (.ref k))) (h : EvS ty σ d c l n' H R)
    (hR : ∀ x, R x → ∃ r, x = rowD r ∧ rowDB names (rowD r) = true) (kk : ∀ H4, Kd d l H0 H4 → StAt d c l n' H4 → Kn names k (m + 1) H4 → Ts H H4 → D.nx σ H4) : sDPut (tVar i) ty (tC (.bl true)) D σ H := by
  refine ⟨.ref k, hσ, h H (Same.refl _) _ fun v x H1 k1 st1 tv hx => ?_⟩
  obtain ⟨r, rfl, hr⟩ := hR x hx
  obtain ⟨ks, g1, g2, g3, g4⟩ := kn
  obtain ⟨q, rfl, hq⟩ := tp_row tv
  have gk := k1 _ _ off.1 off.2.2 g1
  refine ⟨k, _, rfl, DPut.t (k := rowK r) gk (by unfold rowK; rw [kV_ints]; exact hq) (by unfold dset; rw [List.length_map]; exact Nat.lt_of_le_of_lt (Nat.le_trans g4 hm) (by decide)), ?_⟩
  rw [put_dset rowK_inj]
  refine kk _ ((kd.trans k1).mut k0) (st1.upd off.1 off.2.1 off.2.2) ⟨addK ks r, upd_same, nodup_addK g2, fun q hq => ?_, Nat.le_trans (len_addK _ _) (by omega)⟩ ((Kd.ts st k1).trans (Ts.upd fun u hu => by rw [gk] at hu; cases hu; rfl))
  rcases mem_addK.mp hq with q' | q'
  · exact g3 _ q'
  · rw [q']; exact hr
theorem q_put (k0 : H0 k = none) (kd : Kd d l H0 H) (st : StAt d c l n H) (off : k ≠ d ∧ k ≠ c ∧ k ≠ l) (kn : Kn names k m H) (hm : m ≤ 1000) (hσ : σ[i]? = some (some (.ref k))) (h : EvS ty σ d c l n' H R)
    (hR : ∀ x, R x → ∃ r, x = rowD r ∧ rowDB names (rowD r) = true) (kk : ∀ H4, Kd d l H0 H4 → StAt d c l n' H4 → Kn names k (m + 1) H4 → Ts H H4 → tz D σ H4) : tSeq (sDPut (tVar i) ty (tC (.bl true))) tz D σ H :=
  s_put (D := { D with nx := tz D }) k0 kd st off kn hm hσ h hR kk
/-- x, y = drawn, {} -/
theorem q_parSN (h : EvS ta σ d c l n' H (IntB lo hi)) (k : ∀ r q H1, lo ≤ r → r ≤ hi → H q = none → (q ≠ d ∧ q ≠ c ∧ q ≠ l) → Kd d l H H1 → StAt d c l n' H1 → H1 q = some (.dT (dset rowK [])) → tz D ((σ.set i (some (.int r))).set j (some (.ref q))) H1) :
    tSeq (tPar i j (tCons ta (tCons tDNewT tNil))) tz D σ H :=
  h H (Same.refl _) _ fun v x H1 k1 st1 tv hx => by
    obtain ⟨r, rfl, r1, r2⟩ := hx
    refine fun q hq => ⟨v, .ref q, rfl, ?_⟩
    have off := st1.off hq
    have hq0 : H q = none := by
      cases e : H q with
      | none => rfl
      | some o =>
        rw [k1 q o off.1 off.2.2 e] at hq
        cases hq
    rw [tp_int tv]
    exact k r q _ r1 r2 hq0 off (k1.mut hq0) (st1.upd off.1 off.2.1 off.2.2) upd_same
/-- x, y = drawn, drawn -/
theorem q_parSS (h1 : EvS ta σ d c l n1 H (IntB lo hi)) (h2 : ∀ H1, Kd d l H H1 → StAt d c l n1 H1 → EvS tb σ d c l n2 H1 (IntB lo' hi')) (k : ∀ r s H2, lo ≤ r → r ≤ hi → lo' ≤ s → s ≤ hi' → Kd d l H H2 → StAt d c l n2 H2 → tz D ((σ.set i (some (.int r))).set j (some (.int s))) H2) :
    tSeq (tPar i j (tCons ta (tCons tb tNil))) tz D σ H :=
  h1 H (Same.refl _) _ fun v x H1 k1 st1 tv hx => h2 H1 k1 st1 H1 (Same.refl _) _ fun w y H2 k2 st2 tw hy => by
    obtain ⟨r, rfl, r1, r2⟩ := hx
    obtain ⟨s, rfl, s1, s2⟩ := hy
    refine ⟨v, w, rfl, ?_⟩
    rw [tp_int tv, tp_int tw]
    exact k r s H2 r1 r2 s1 s2 (k1.trans k2) st2
theorem q_parII (h1 : EvD ta σ H (.int a)) (h2 : EvD tb σ H (.int b)) (k : ∀ H1, Same H H1 → tz D ((σ.set i (some (.int a))).set j (some (.int b))) H1) : tSeq (tPar i j (tCons ta (tCons tb tNil))) tz D σ H :=
  h1 H (Same.refl _) _ fun v H1 s1 tv => h2 H1 s1 _ fun w H2 s2 tw => by
    refine ⟨v, w, rfl, ?_⟩
    rw [tp_int tv, tp_int tw]
    exact k H2 (s1.trans s2)
/-- l[:16] -/
theorem l_take {cs : List Row} (h : EvLv te σ H (cs.map rowD)) : EvLs (tSl (rSlL K) te tNoPart (tPart (tC (.int 16)))) σ H ((cs.take 16).map rowD) := fun H1 s Q q =>
  h H1 s _ fun p xs H2 s2 h1 h2 => ⟨16, rfl, p, xs, rfl, sql h1, fun a ha => by
    have e : cutV xs none (some 16) = xs.take 16 := by
      unfold cutV
      rw [HT.sIx_none, List.drop_zero, Nat.sub_zero, show (16 : Int) = ((16 : Nat) : Int) from rfl, HT.sIx_nat]
      by_cases hl : 16 ≤ xs.length
      · rw [show min 16 xs.length = 16 by omega]
      · rw [show min 16 xs.length = xs.length by omega, List.take_length, List.take_of_length_le (by omega)]
    rw [e]
    refine q a _ _ (s2.free ha) (s2.trans (Same.new ha)) upd_same ?_
    rw [List.map_take]
    exact (h2.take 16).mono (Same.new ha)⟩
end
section
variable {P : Program} {w : World} {K : PySem.W.Frag} {mg : Str → Option Value} {base : Heap} {t1 t2 : Tok}
abbrev s_law_bundle : Stmt := topS 42
abbrev N_law_bundle : List Str := ["state", "most", "many", "names", "known", "k", "one", "other", "low", "high", "row"]
theorem sc_law_bundle : FnScope N_law_bundle ["state", "most", "many"] (defScope s_law_bundle) := ⟨rfl, rfl, rfl, by decide +kernel, rfl, by decide +kernel, by decide +kernel⟩
-- _law_bundle: {0: 'state', 1: 'most', 2: 'many', 3: 'names', 4: 'known', 5: 'k', 6: 'one', 7: 'other', 8: 'low', 9: 'high', 10: 'row'}
abbrev sp_law_bundle : Sp := spS (fun a : Int × Int => [.int a.1, .int a.2]) (fun a => 1 ≤ a.1 ∧ a.1 ≤ 7 ∧ 0 ≤ a.2 ∧ a.2 ≤ 12) 300 (fun a x => ∃ n cs, x = bunD n cs ∧ BunOk n cs)
theorem ok_law_bundle (D : Def K mg "_law_bundle" s_law_bundle ["state", "most", "many"]) (B : Blt mg) (F_law_draw : Fn P w K mg base 2 "_law_draw" ["state", "many"] sp_law_draw) (F_law_clause : Fn P w K mg base 3 "_law_clause" ["state", "names"] sp_law_clause) : Fn P w K mg base 4 "_law_bundle" ["state", "most", "many"] sp_law_bundle := by
  refine D.ok sc_law_bundle (fun vs H Q E h => ?_) (fun f cdv A outer s H vs Q E hr h => ?_)
  · obtain ⟨d, c, l, n, a, ws, rfl, t, _⟩ := h
    rw [List.length_cons, t.length]
    rfl
  · obtain ⟨d, c, l, n0, ⟨most, many⟩, ws, rfl, t, st, hn, ⟨m1, m2, m3, m4⟩, q⟩ := h
    obtain ⟨v, x, rfl, tv, tx⟩ := tpAll_two t
    have hu64 := hr.units
    have hu1 := hu_of hr
    refine ⟨_, (pss_cons (ps_par (i := 3) (j := 4) rfl sc_law_bundle.nd rfl rfl (by decide) rfl rfl (pa_cons (pe_op op_add pe_int (pe_fn (F_law_draw.mono (by decide)) hr (pa_cons (pv 0) (pa_cons (pv 1) pa_nil)))) (pa_cons pe_dnewT pa_nil)) (by rfl))
      (pss_cons (ps_for (passes_of rfl) rfl (pi_range1 rfl B.range (pa_cons (pe_fn (F_law_draw.mono (by decide)) hr (pa_cons (pv 0) (pa_cons (pe_op op_add (pv 2) pe_int) pa_nil))) pa_nil)) (pg_name (i := 5) sc_law_bundle.nd rfl (Or.inl rfl)) (pss_one (ps_dput hu1 (pv 4) (pe_fn (F_law_clause.mono (by decide)) hr (pa_cons (pv 0) (pa_cons (pv 3) pa_nil))) pe_bl rfl)))
      (pss_cons (ps_if (pt_cmpR op_eq (pe_fn (F_law_draw.mono (by decide)) hr (pa_cons (pv 0) (pa_cons pe_int pa_nil))) pe_int (nomark _)) (pss_one (ps_dput hu1 (pv 4) (pe_tup pa_nil) pe_bl rfl)) pss_nil)
      (pss_cons (ps_for (passes_of rfl) rfl (pi_range1 rfl B.range (pa_cons (pe_fn (F_law_draw.mono (by decide)) hr (pa_cons (pv 0) (pa_cons pe_int pa_nil))) pa_nil)) (pg_name (i := 5) sc_law_bundle.nd rfl (Or.inl rfl)) (pss_cons (ps_par (i := 6) (j := 7) rfl sc_law_bundle.nd rfl rfl (by decide) rfl rfl (pa_cons (pe_op op_add pe_int (pe_fn (F_law_draw.mono (by decide)) hr (pa_cons (pv 0) (pa_cons (pv 3) pa_nil)))) (pa_cons (pe_op op_add pe_int (pe_fn (F_law_draw.mono (by decide)) hr (pa_cons (pv 0) (pa_cons (pv 3) pa_nil)))) pa_nil)) (by rfl))
      (pss_one (ps_if (pt_cmpR op_eq (pv 6) (pv 7) (nomark _)) (pss_cons (ps_dput hu1 (pv 4) (pe_tup (pa_cons (pv 6) pa_nil)) pe_bl rfl)
      (pss_one (ps_dput hu1 (pv 4) (pe_tup (pa_cons (pe_op op_sub pe_int (pv 6)) pa_nil)) pe_bl rfl))) (pss_cons (ps_par (i := 8) (j := 9) rfl sc_law_bundle.nd rfl rfl (by decide) rfl rfl (pa_cons (pe_callB (call_min2 rfl) rfl B.min (by decide +kernel) (pa_cons (pv 6) (pa_cons (pv 7) pa_nil))) (pa_cons (pe_callB (call_max2 rfl) rfl B.max (by decide +kernel) (pa_cons (pv 6) (pa_cons (pv 7) pa_nil))) pa_nil)) (by rfl))
      (pss_one (ps_for (passes_of rfl) rfl (pi_tup (pe_tup (pa_cons (pe_tup (pa_cons (pv 8) (pa_cons (pv 9) pa_nil))) (pa_cons (pe_tup (pa_cons (pv 8) (pa_cons (pe_op op_sub pe_int (pv 9)) pa_nil))) (pa_cons (pe_tup (pa_cons (pe_op op_sub pe_int (pv 8)) (pa_cons (pv 9) pa_nil))) (pa_cons (pe_tup (pa_cons (pe_op op_sub pe_int (pv 8)) (pa_cons (pe_op op_sub pe_int (pv 9)) pa_nil))) pa_nil)))))) (pg_name (i := 10) sc_law_bundle.nd rfl (Or.inl rfl)) (pss_one (ps_dput hu1 (pv 4) (pv 10) pe_bl rfl)))))))))
      (pss_one (ps_ret (pe_tup (pa_cons (pv 3) (pa_cons (pe_callTy (r := rTupQ K) call_tuple_of rfl B.tuple (by decide +kernel) (pa_cons (pe_slice (r := rSlL K) sl_list (pe_callB (r := rSortDT K) (cr_sortDT rfl hu64) rfl B.sorted (by decide +kernel) (pa_cons (pv 4) pa_nil)) po_none (po_some pe_int)) pa_nil)) pa_nil))))))))), ?_⟩
    have m1 : 1 ≤ most := m1
    have m2 : most ≤ 7 := m2
    have m3 : 0 ≤ many := m3
    have m4 : many ≤ 12 := m4
    rw [tp_int tv, tp_int tx]
    refine q_parSN (e_addR st d_int (e_call most ⟨m1, by omega⟩ rfl st (by omega) (a_cons (d_var rfl (.int most)) a_nil))) fun names k H1 b1 b2 hk off k1 st1 hk1 => ?_
    have b1' : 1 ≤ names := by omega
    have b2' : names ≤ 7 := by omega
    have kn1 : Kn names k 0 H1 := ⟨[], hk1, List.nodup_nil, fun r hr => by simp at hr, Nat.le_refl _⟩
    refine q_forS (lo := 0) (hi := many) (EvS.imp (e_call (many + 1) ⟨by omega, by omega⟩ rfl st1 (by omega) (a_cons (d_add (d_var rfl (.int many)) d_int) a_nil)) fun x hx => ?_) ⟨by omega, by decide⟩ fun m H2 mm1 mm2 k2 st2 => ⟨fun i σ' H' => ∃ y5 y6 y7 y8 y9 y10, σ' = [some (.ref d), some (.int most), some (.int many), some (.int names), some (.ref k), y5, y6, y7, y8, y9, y10] ∧ Kd d l H H' ∧ StAt d c l (n0 + 2 + 20 * (i : Int)) H' ∧ Kn names k i H',
      ⟨none, none, none, none, none, none, rfl, k1.trans k2, st2.le (by omega), kn1.kd k2 off⟩, fun i σ' H' hi p => ?_, fun σ' H' p => ?_⟩
    · obtain ⟨r, rfl, r1, r2⟩ := hx
      exact ⟨r, rfl, r1, by omega⟩
    · obtain ⟨y5, y6, y7, y8, y9, y10, rfl, kd, st', kn⟩ := p
      refine s_put (n' := n0 + 2 + 20 * (i : Int) + 20) hk kd st' off kn (by omega) rfl (e_call names ⟨b1', b2'⟩ rfl st' (by omega) (a_cons (d_var rfl (.int names)) a_nil)) (fun x hx => hx) fun H4 kd4 st4 kn4 ts4 => ?_
      exact ⟨_, _, _, _, _, _, rfl, kd4, st4.le (by omega), kn4⟩
    · obtain ⟨y5, y6, y7, y8, y9, y10, rfl, kd, st', kn⟩ := p
      have st' := st'.le (m := n0 + 242) (by omega)
      have kn := kn.le (m' := 12) (by omega)
      suffices hrest : ∀ H5, Kd d l H H5 → StAt d c l (n0 + 243) H5 → Kn names k 13 H5 → _ from q_ifS (b_eq0 (e_call (12 : Int) ⟨by decide, by decide⟩ rfl st' (by omega) (a_cons d_int a_nil)))
        (fun H3 k3 st3 => s_put (n' := n0 + 242 + 1) hk (kd.trans k3) st3 off (kn.kd k3 off) (by omega) rfl (e_D st3 (d_tup (ds := []) a_nil (by decide))) (fun x hx => ⟨[], hx, row0⟩) fun H4 kd4 st4 kn4 _ => hrest H4 kd4 (st4.le (by omega)) kn4)
        fun H3 k3 st3 => hrest H3 (kd.trans k3) (st3.le (by omega)) ((kn.kd k3 off).le (by omega))
      intro H5 kd5 st5 kn5
      refine q_forS (lo := 0) (hi := 2) (EvS.imp (e_call (3 : Int) ⟨by decide, by decide⟩ rfl st5 (by omega) (a_cons d_int a_nil)) fun x hx => hx) ⟨by omega, by decide⟩ fun m' H6 nn1 nn2 k6 st6 => ⟨fun i σ' H' => ∃ y5 y6 y7 y8 y9 y10, σ' = [some (.ref d), some (.int most), some (.int many), some (.int names), some (.ref k), y5, y6, y7, y8, y9, y10] ∧ Kd d l H H' ∧ StAt d c l (n0 + 244 + 2 * (i : Int)) H' ∧ Kn names k (13 + 4 * i) H',
        ⟨_, _, _, _, _, _, rfl, kd5.trans k6, st6.le (by omega), kn5.kd k6 off⟩, fun i σ' H' hi p => ?_, fun σ' H' p => ?_⟩
      · obtain ⟨z5, z6, z7, z8, z9, z10, rfl, kd', st7, kn7⟩ := p
        refine q_parSS (n1 := n0 + 244 + 2 * (i : Int) + 1) (n2 := n0 + 244 + 2 * (i : Int) + 1 + 1) (e_addR st7 d_int (e_call names ⟨b1', by omega⟩ rfl st7 (by omega) (a_cons (d_var rfl (.int names)) a_nil))) (fun H8 k8 st8 => e_addR st8 d_int (e_call names ⟨b1', by omega⟩ rfl st8 (by omega) (a_cons (d_var rfl (.int names)) a_nil))) fun one other H8 o1 o2 o3 o4 k8 st8 => ?_
        have kd8 := kd'.trans k8
        have kn8 := kn7.kd k8 off
        refine s_if (b_test (d_eqI (d_var rfl (.int one)) (d_var rfl (.int other)))) (fun hb H9 s9 => ?_) fun hb H9 s9 => ?_
        · refine q_put hk (kd8.trans (Kd.of s9)) (st8.same s9) off (kn8.kd (Kd.of s9) off) (by omega) rfl (e_D (st8.same s9) (d_tup (ds := [.int one]) (a_cons (d_var rfl (.int one)) a_nil) (by show 1 ≤ 100000; decide))) (fun x hx => ⟨[one], hx, row1 (by unfold iabs; split <;> omega) (by unfold iabs; split <;> omega)⟩) fun H10 kd10 st10 kn10 _ => ?_
          refine s_put hk kd10 st10 off kn10 (by omega) rfl (e_D st10 (d_tup (ds := [.int (0 - one)]) (a_cons (d_sub d_int (d_var rfl (.int one))) a_nil) (by show 1 ≤ 100000; decide))) (fun x hx => ⟨[0 - one], hx, row1 (by unfold iabs; split <;> omega) (by unfold iabs; split <;> omega)⟩) fun H11 kd11 st11 kn11 _ => ?_
          exact ⟨_, _, _, _, _, _, rfl, kd11, st11.le (by omega), kn11.le (by omega)⟩
        · have hne : ¬ one = other := of_decide_eq_false hb
          refine q_parII (d_min2 (d_var rfl (.int one)) (d_var rfl (.int other))) (d_max2 (d_var rfl (.int one)) (d_var rfl (.int other))) fun H10 s10 => ?_
          have hlow : ∃ low high : Int, (if other < one then other else one) = low ∧ (if other > one then other else one) = high ∧ 1 ≤ low ∧ low < high ∧ high ≤ names := ⟨_, _, rfl, rfl, by split <;> omega, by split <;> split <;> omega, by split <;> omega⟩
          obtain ⟨low, high, e1, e2, l1, l2, l3⟩ := hlow
          rw [e1, e2]
          have sx := s9.trans s10
          have hrows : ∀ r ∈ [[low, high], [low, 0 - high], [0 - low, high], [0 - low, 0 - high]], rowDB names (rowD r) = true := fun r hr => by
            have a1 : iabs low = low := by unfold iabs; split <;> omega
            have a2 : iabs high = high := by unfold iabs; split <;> omega
            have a3 : iabs (0 - low) = low := by unfold iabs; split <;> omega
            have a4 : iabs (0 - high) = high := by unfold iabs; split <;> omega
            simp only [List.mem_cons, List.not_mem_nil, or_false] at hr
            rcases hr with rfl | rfl | rfl | rfl
            · exact row2 (by omega) (by omega) (by omega)
            · exact row2 (by omega) (by omega) (by omega)
            · exact row2 (by omega) (by omega) (by omega)
            · exact row2 (by omega) (by omega) (by omega)
          refine s_forT (ds := [[low, high], [low, 0 - high], [0 - low, high], [0 - low, 0 - high]].map rowD) (d_tup (a_cons (d_tup (a_cons (d_var rfl (.int low)) (a_cons (d_var rfl (.int high)) a_nil)) (by show 2 ≤ 100000; decide)) (a_cons (d_tup (a_cons (d_var rfl (.int low)) (a_cons (d_sub d_int (d_var rfl (.int high))) a_nil)) (by show 2 ≤ 100000; decide)) (a_cons (d_tup (a_cons (d_sub d_int (d_var rfl (.int low))) (a_cons (d_var rfl (.int high)) a_nil)) (by show 2 ≤ 100000; decide)) (a_cons (d_tup (a_cons (d_sub d_int (d_var rfl (.int low))) (a_cons (d_sub d_int (d_var rfl (.int high))) a_nil)) (by show 2 ≤ 100000; decide)) a_nil)))) (by show 4 ≤ 100000; decide)) fun H11 s11 =>
            ⟨fun i' σ' H' => ∃ z5 z10, σ' = [some (.ref d), some (.int most), some (.int many), some (.int names), some (.ref k), z5, some (.int one), some (.int other), some (.int low), some (.int high), z10] ∧ Kd d l H H' ∧ StAt d c l (n0 + 244 + 2 * (i : Int) + 1 + 1) H' ∧ Kn names k (13 + 4 * i + i') H' ∧ Ts H11 H',
            ⟨_, _, rfl, kd8.trans (Kd.of (sx.trans s11)), st8.same (sx.trans s11), kn8.kd (Kd.of (sx.trans s11)) off, Ts.refl⟩, fun i' σ' H' _ p => ?_, fun i' z dd σ' H' hi' tz p => ?_, fun σ' H' p => ?_⟩
          · obtain ⟨_, _, _, _, _, _, h⟩ := p
            exact h
          · obtain ⟨w5, w10, rfl, kdp, stp, knp, tsp⟩ := p
            rw [List.getElem?_map] at hi'
            cases hc : [[low, high], [low, 0 - high], [0 - low, high], [0 - low, 0 - high]][i']? with
            | none => rw [hc] at hi'; cases hi'
            | some r =>
              rw [hc] at hi'
              have hi2 : rowD r = dd := Option.some.inj hi'
              subst hi2
              have hlt : i' < 4 := (List.getElem?_eq_some_iff.mp hc).1
              refine s_put hk kdp stp off knp (by omega) rfl (e_D stp (d_var rfl tz)) (fun x hx => ⟨r, hx, hrows r (List.mem_of_getElem? hc)⟩) fun H12 kd12 st12 kn12 ts12 => ?_
              exact ⟨_, _, rfl, kd12, st12, kn12, tsp.trans ts12⟩
          · obtain ⟨w5, w10, rfl, kdp, stp, knp, tsp⟩ := p
            exact ⟨_, _, _, _, _, _, rfl, kdp, stp.le (by omega), knp.le (by show 13 + 4 * i + 4 ≤ 13 + 4 * (i + 1); omega)⟩
      · obtain ⟨z5, z6, z7, z8, z9, z10, rfl, kd', st7, ks, g1, g2, g3, g4⟩ := p
        refine s_ret (EvD.is (e := bunD names ((norm ks).take 16)) (d_tup (a_cons (d_var rfl (.int names)) (a_cons (d_tupOf (l_take (l_sortDT (ev_var rfl) g1 g2).v).v) a_nil)) (by show 2 ≤ 100000; decide)) rfl) fun y H8 s8 ty => q y _ H8 (kd'.trans (Kd.of s8)) ((st7.same s8).le (by omega)) ty ⟨names, _, rfl, ⟨b1', b2', fun r hr => g3 r (mem_norm.mp (List.mem_of_mem_take hr)), List.Pairwise.sublist (List.take_sublist _ _) (up_norm ks), ?_⟩⟩
        rw [List.length_take]
        omega
end
end Xh

/-! Loops over ranges and lists; shifts. -/
namespace Xh
open PySem PySem.Spec PyProof.Rows L2 Evl
section
variable {K : PySem.W.Frag} {σ : L2.St} {H H' : Hp} {ta tb te : TE} {t : TT} {tu tz : TS} {D : Ends} {i j : Nat} {a b x y : Int}
theorem d_shl (ha : EvD ta σ H (.int a)) (hb : EvD tb σ H (.int b)) (hc : CPow a b) : EvD (tOp (rI CPow fun i j => .int (i * 2 ^ j.toNat)) ta tb) σ H (.int (a * 2 ^ b.toNat)) := d_I hc ha hb fun _ => .int _
theorem d_shr (ha : EvD ta σ H (.int a)) (hb : EvD tb σ H (.int b)) (hc : 0 ≤ b) : EvD (tOp (rI (fun _ j => 0 ≤ j) fun i j => .int (i / 2 ^ j.toNat)) ta tb) σ H (.int (a / 2 ^ b.toNat)) := d_I (C := fun _ j => 0 ≤ j) hc ha hb fun _ => .int _
theorem d_bit1 (ha : EvD ta σ H (.int a)) : EvD (tOp (rI0 fun i j => .int (Builtin.bitAnd i j)) ta (tC (.int 1))) σ H (.int (a % 2)) := by
  have h : EvD (tOp (rI0 fun i j => .int (Builtin.bitAnd i j)) ta (tC (.int 1))) σ H (.int (Builtin.bitAnd a 1)) := d_I0 ha d_int fun _ => .int _
  rw [PyProof.Rows.bitAnd_m1] at h
  exact h
theorem nat_bit (m i : Nat) : ((((m : Int) / 2 ^ ((i : Int)).toNat) % 2) != 0) = m.testBit i := by
  rw [Nat.testBit_eq_decide_div_mod_eq, Int.toNat_natCast]
  have e : ((m : Int) / 2 ^ i) % 2 = ((m / 2 ^ i % 2 : Nat) : Int) := by
    rw [Int.natCast_emod, Int.natCast_ediv, Int.natCast_pow]
    rfl
  rw [e]
  have hz : m / 2 ^ i % 2 < 2 := Nat.mod_lt _ (by decide)
  by_cases h : m / 2 ^ i % 2 = 1
  · rw [h]; rfl
  · have h0 : m / 2 ^ i % 2 = 0 := by omega
    rw [h0]; rfl
/-- for k in range(a, b) -/
theorem s_forR2 (ha : EvD ta σ H (.int a)) (hb : EvD tb σ H (.int b)) (hn : -100000 ≤ a ∧ a ≤ 100000 ∧ -100000 ≤ b ∧ b ≤ 100000) (k : ∀ H1, Same H H1 → ∃ Pv : Nat → L2.St → Hp → Prop, Pv 0 σ H1 ∧
    (∀ (i : Nat) σ' H', (i : Int) < b - a → Pv i σ' H' → tu { D with nx := Pv (i + 1), ct := Pv (i + 1), bk := D.nx } (σ'.set j (some (.int (a + (i : Int))))) H') ∧ ∀ σ' H', Pv (b - a).toNat σ' H' → D.nx σ' H') : tFor (iRng2 (tCons ta (tCons tb tNil))) (gName j) tu D σ H :=
  ha H (Same.refl _) _ fun v H1 s1 tv => hb H1 s1 _ fun w H2 s2 tw => by
    obtain ⟨Pv, h0, hs, hd⟩ := k H2 (s1.trans s2)
    exact ⟨a, b, by rw [tp_int tv, tp_int tw], ⟨by omega, by omega, by omega, by omega⟩, for_range (lo := a) (n := (b - a).toNat) Pv h0 (fun i σ' H' hi p => hs i σ' H' (by omega) p) hd⟩
theorem q_forR2 (ha : EvD ta σ H (.int a)) (hb : EvD tb σ H (.int b)) (hn : -100000 ≤ a ∧ a ≤ 100000 ∧ -100000 ≤ b ∧ b ≤ 100000) (k : ∀ H1, Same H H1 → ∃ Pv : Nat → L2.St → Hp → Prop, Pv 0 σ H1 ∧
    (∀ (i : Nat) σ' H', (i : Int) < b - a → Pv i σ' H' → tu { D with nx := Pv (i + 1), ct := Pv (i + 1), bk := tz D } (σ'.set j (some (.int (a + (i : Int))))) H') ∧ ∀ σ' H', Pv (b - a).toNat σ' H' → tz D σ' H') : tSeq (tFor (iRng2 (tCons ta (tCons tb tNil))) (gName j) tu) tz D σ H :=
  s_forR2 (D := { D with nx := tz D }) ha hb hn k
/-- [e for k in range(a, b)] -/
theorem l_compRg {vs : List Nat} (g : Nat → PyData) (ha : EvD ta σ H (.int a)) (hb : EvD tb σ H (.int b)) (hn : -10000 ≤ a ∧ a ≤ 10000 ∧ -10000 ≤ b ∧ b ≤ 10000) (hw : ∀ x, wipe ((wipe σ vs).set i (some x)) vs = wipe σ vs)
    (he : ∀ (k : Nat) H1, Same H H1 → (k : Int) < b - a → EvD te ((wipe σ vs).set i (some (.int (a + (k : Int))))) H1 (g k)) : EvLs (tLc (iRng2 (tCons ta (tCons tb tNil))) (gName i) tYes te vs) σ H ((List.range (b - a).toNat).map g) := fun H0 s0 Q q =>
  ha H0 s0 _ fun v H1 s1 tv => hb H1 (s0.trans s1) _ fun w H2 s2 tw => ⟨a, b, by rw [tp_int tv, tp_int tw], ⟨by omega, by omega, by omega, by omega⟩, fun Dl hD => by
    have s12 := (s0.trans s1).trans s2
    refine lc_it (walk_range (lo := a) (n := (b - a).toNat)) (fun k H' => Same H2 H' ∧ ∃ xs, H' Dl = some (.lst xs) ∧ TpAll H' xs ((List.range k).map g)) ⟨Same.new hD, [], upd_same, .nil⟩ (fun _ _ _ _ => trivial) (fun k y H3 H4 hk p yy => ?_) fun H3 p => ?_
    · obtain ⟨rfl, rfl⟩ := yy
      obtain ⟨sH, xs, hL, tL⟩ := p
      refine ⟨hw _, ?_⟩
      refine he k _ (s12.trans sH) (by omega) _ (Same.refl _) _ fun u H5 s5 tu => ?_
      have hL5 := s5 _ _ hL
      have mu : Ts H5 (upd H5 Dl (.lst (xs ++ [u]))) := Ts.upd fun o ho => by rw [hL5] at ho; cases ho; rfl
      have hxl := tL.length
      rw [List.length_map, List.length_range] at hxl
      refine ⟨xs, hL5, Nat.lt_of_le_of_lt (show xs.length ≤ 100000 by omega) (by decide), Same.mut (sH.trans s5) hD, xs ++ [u], upd_same, ?_⟩
      rw [List.range_succ, List.map_append]
      exact ((tL.mono s5).mono' mu).append (.cons (tu.mono' mu) .nil)
    · obtain ⟨sH, xs, hL, tL⟩ := p
      exact q Dl xs H3 ((s1.trans s2).free hD) ((s1.trans s2).trans sH) hL tL⟩
end
section
variable {K : PySem.W.Frag} {σ : L2.St} {H H' : Hp} {ta tb te tl : TE} {t : TT} {tu tz : TS} {D : Ends} {i j : Nat} {g : TG} {ds es : List PyData}
/-- for x in a list of data -/
theorem s_forL (h : EvLv tl σ H ds) (k : ∀ p xs H1, Same H H1 → H1 p = some (.lst xs) → TpAll H1 xs ds → ∃ Pv : Nat → L2.St → Hp → Prop, Pv 0 σ H1 ∧ (∀ i σ' H', i ≤ ds.length → Pv i σ' H' → H' p = some (.lst xs) ∧ Ts H1 H') ∧
    (∀ i v d σ' H', ds[i]? = some d → Tp H' v d → Pv i σ' H' → g v σ' H' fun σ2 H2 => tu { D with nx := Pv (i + 1), ct := Pv (i + 1), bk := D.nx } σ2 H2) ∧ ∀ σ' H', Pv ds.length σ' H' → D.nx σ' H') : tFor (iList K tl) g tu D σ H :=
  h H (Same.refl _) _ fun a xs H1 s h1 h2 => by
    obtain ⟨Pv, h0, ht, hs, hd⟩ := k a xs H1 s h1 h2
    refine ⟨a, rfl, ⟨xs, sql h1⟩, ?_⟩
    have hl := h2.length
    refine for_it walk_list Pv h0 (fun i σ' H' hi p => sql (ht i σ' H' (by omega) p).1) (fun i y σ' H2 H3 hi p yy => ?_) fun σ' H' p => hd σ' H' (by rw [← hl]; exact p)
    obtain ⟨rfl, hy⟩ := yy
    obtain ⟨d, hd', hyd⟩ := h2.get hy
    exact hs i y d σ' _ hd' (hyd.mono' (ht i σ' _ (by omega) p).2) p
/-- for x in a new list of data -/
theorem s_forLs (h : EvLs tl σ H ds) (k : ∀ p xs H1, H p = none → Same H H1 → H1 p = some (.lst xs) → TpAll H1 xs ds → ∃ Pv : Nat → L2.St → Hp → Prop, Pv 0 σ H1 ∧ (∀ i σ' H', i ≤ ds.length → Pv i σ' H' → H' p = some (.lst xs) ∧ Ts H1 H') ∧
    (∀ i v d σ' H', ds[i]? = some d → Tp H' v d → Pv i σ' H' → g v σ' H' fun σ2 H2 => tu { D with nx := Pv (i + 1), ct := Pv (i + 1), bk := D.nx } σ2 H2) ∧ ∀ σ' H', Pv ds.length σ' H' → D.nx σ' H') : tFor (iList K tl) g tu D σ H :=
  h H (Same.refl _) _ fun a xs H1 hn s h1 h2 => by
    obtain ⟨Pv, h0, ht, hs, hd⟩ := k a xs H1 hn s h1 h2
    refine ⟨a, rfl, ⟨xs, sql h1⟩, ?_⟩
    have hl := h2.length
    refine for_it walk_list Pv h0 (fun i σ' H' hi p => sql (ht i σ' H' (by omega) p).1) (fun i y σ' H2 H3 hi p yy => ?_) fun σ' H' p => hd σ' H' (by rw [← hl]; exact p)
    obtain ⟨rfl, hy⟩ := yy
    obtain ⟨d, hd', hyd⟩ := h2.get hy
    exact hs i y d σ' _ hd' (hyd.mono' (ht i σ' _ (by omega) p).2) p
theorem q_forL (h : EvLv tl σ H ds) (k : ∀ p xs H1, Same H H1 → H1 p = some (.lst xs) → TpAll H1 xs ds → ∃ Pv : Nat → L2.St → Hp → Prop, Pv 0 σ H1 ∧ (∀ i σ' H', i ≤ ds.length → Pv i σ' H' → H' p = some (.lst xs) ∧ Ts H1 H') ∧
    (∀ i v d σ' H', ds[i]? = some d → Tp H' v d → Pv i σ' H' → g v σ' H' fun σ2 H2 => tu { D with nx := Pv (i + 1), ct := Pv (i + 1), bk := tz D } σ2 H2) ∧ ∀ σ' H', Pv ds.length σ' H' → tz D σ' H') : tSeq (tFor (iList K tl) g tu) tz D σ H :=
  s_forL (D := { D with nx := tz D }) h k
theorem s_forV {xs : List V} (hσ : σ[i]? = some (some (.ref p))) (h1 : H p = some (.lst xs)) (h2 : TpAll H xs ds) (Pv : Nat → L2.St → Hp → Prop) (h0 : Pv 0 σ H) (ht : ∀ i σ' H', i ≤ ds.length → Pv i σ' H' → H' p = some (.lst xs) ∧ Ts H H')
    (hs : ∀ i v d σ' H', ds[i]? = some d → Tp H' v d → Pv i σ' H' → g v σ' H' fun σ2 H2 => tu { D with nx := Pv (i + 1), ct := Pv (i + 1), bk := D.nx } σ2 H2) (hd : ∀ σ' H', Pv ds.length σ' H' → D.nx σ' H') : tFor (iList K (tVar i)) g tu D σ H := by
  refine ⟨.ref p, hσ, p, rfl, ⟨xs, sql h1⟩, ?_⟩
  have hl := h2.length
  refine for_it walk_list Pv h0 (fun i σ' H' hi p => sql (ht i σ' H' (by omega) p).1) (fun i y σ' H2 H3 hi p yy => ?_) fun σ' H' p => hd σ' H' (by rw [← hl]; exact p)
  obtain ⟨rfl, hy⟩ := yy
  obtain ⟨d, hd', hyd⟩ := h2.get hy
  exact hs i y d σ' _ hd' (hyd.mono' (ht i σ' _ (by omega) p).2) p
theorem q_forV {xs : List V} (hσ : σ[i]? = some (some (.ref p))) (h1 : H p = some (.lst xs)) (h2 : TpAll H xs ds) (Pv : Nat → L2.St → Hp → Prop) (h0 : Pv 0 σ H) (ht : ∀ i σ' H', i ≤ ds.length → Pv i σ' H' → H' p = some (.lst xs) ∧ Ts H H')
    (hs : ∀ i v d σ' H', ds[i]? = some d → Tp H' v d → Pv i σ' H' → g v σ' H' fun σ2 H2 => tu { D with nx := Pv (i + 1), ct := Pv (i + 1), bk := tz D } σ2 H2) (hd : ∀ σ' H', Pv ds.length σ' H' → tz D σ' H') : tSeq (tFor (iList K (tVar i)) g tu) tz D σ H :=
  s_forV (D := { D with nx := tz D }) hσ h1 h2 Pv h0 ht hs hd
end
def isNon : PyData → Bool
  | .none => true
  | _ => false
theorem d_isN2 {σ : L2.St} {H : Hp} {ta : TE} {d : PyData} (ha : EvD ta σ H d) : EvD (tOp (fun x y H Q => y = .non ∧ Q (.bl (decide (x = .non))) H) ta (tC .non)) σ H (.bool (isNon d)) := by
  cases d <;> exact d_isN ha rfl
theorem d_notN2 {σ : L2.St} {H : Hp} {ta : TE} {d : PyData} (ha : EvD ta σ H d) : EvD (tOp (fun x y H Q => y = .non ∧ Q (.bl (!decide (x = .non))) H) ta (tC .non)) σ H (.bool (!isNon d)) := by
  cases d <;> exact d_notN ha rfl
end Xh

/-! Ascending rows: what crossing, putting and taking away do. (No program in it.) -/
namespace Xh
open PySem PySem.Spec PyProof.Rows L2 Evl
theorem norm_len (l : List Row) : (norm l).length ≤ l.length := by
  have h1 : ∀ (x : Row) (l : List Row), (insR x l).length ≤ l.length + 1 := by
    intro x l
    induction l with
    | nil => exact Nat.le_refl _
    | cons y ys ih =>
      unfold insR
      split
      · exact Nat.le_refl _
      · split
        · rw [List.length_cons]; omega
        · rw [List.length_cons, List.length_cons]; omega
  induction l with
  | nil => exact Nat.le_refl _
  | cons y ys ih =>
    have h2 := h1 y (norm ys)
    show (insR y (norm ys)).length ≤ _
    rw [List.length_cons]
    omega
theorem norm_snoc_mem {cs : List Row} {c : Row} (h : Up cs) (hc : c ∈ cs) : norm (cs ++ [c]) = cs := by
  rw [← norm_up h]
  exact norm_congr fun z => by
    rw [norm_up h, List.mem_append, List.mem_singleton]
    constructor
    · rintro (q | q)
      · exact q
      · exact q ▸ hc
    · exact .inl
theorem up_erase {cs : List Row} (h : Up cs) (i : Nat) : Up (cs.eraseIdx i) := List.Pairwise.sublist (List.eraseIdx_sublist _ _) h
theorem mem_erase_nd {α : Type} {l : List α} (h : l.Nodup) {r : Nat} (hr : r < l.length) {z : α} : z ∈ l.eraseIdx r ↔ z ∈ l ∧ z ≠ l[r] := by
  rw [List.mem_eraseIdx_iff_getElem]
  constructor
  · rintro ⟨i, hi, hne, e⟩
    refine ⟨e ▸ List.getElem_mem hi, fun e2 => ?_⟩
    rw [← e] at e2
    exact hne ((List.getElem_inj h).mp e2)
  · rintro ⟨h1, h2⟩
    obtain ⟨i, hi, e⟩ := List.getElem_of_mem h1
    refine ⟨i, hi, fun e2 => h2 ?_, e⟩
    subst e2
    exact e.symm
/-- taking a put one away -/
theorem erase_put {cs : List Row} {c : Row} (h : Up cs) (hc : ¬ c ∈ cs) {j : Nat} (hj : (norm (cs ++ [c]))[j]? = some c) : (norm (cs ++ [c])).eraseIdx j = cs := by
  obtain ⟨hl, e⟩ := List.getElem?_eq_some_iff.mp hj
  refine up_uniq (up_erase (up_norm _) j) h fun z => ?_
  rw [mem_erase_nd (up_nodup (up_norm _)) hl, e, mem_norm, List.mem_append, List.mem_singleton]
  constructor
  · rintro ⟨q | q, q2⟩
    · exact q
    · exact absurd q q2
  · intro q
    exact ⟨.inl q, fun e2 => hc (e2 ▸ q)⟩
theorem filter_erase {cs : List Row} (h : Up cs) {i : Nat} (hi : i < cs.length) : (cs.filter fun c => !decide (c = cs[i])) = cs.eraseIdx i := by
  refine up_uniq (List.Pairwise.sublist List.filter_sublist h) (up_erase h i) fun z => ?_
  rw [mem_erase_nd (up_nodup h) hi, List.mem_filter]
  simp
theorem put_erase {cs : List Row} (h : Up cs) {i : Nat} (hi : i < cs.length) : norm (cs.eraseIdx i ++ [cs[i]]) = cs := by
  refine up_uniq (up_norm _) h fun z => ?_
  rw [mem_norm, List.mem_append, List.mem_singleton, mem_erase_nd (up_nodup h) hi]
  constructor
  · rintro (q | q)
    · exact q.1
    · rw [q]; exact List.getElem_mem hi
  · intro q
    by_cases e : z = cs[i]
    · exact .inr e
    · exact .inl ⟨q, e⟩
/-- the first place of a member -/
theorem first_place {cs : List Row} {c : Row} (h : Up cs) (hc : c ∈ cs) : ∃ j, cs[j]? = some c ∧ ∀ m : Nat, m < j → cs[m]? ≠ some c := by
  obtain ⟨j, hj, e⟩ := List.getElem_of_mem hc
  refine ⟨j, List.getElem?_eq_some_iff.mpr ⟨hj, e⟩, fun m hm e2 => ?_⟩
  obtain ⟨hl, e3⟩ := List.getElem?_eq_some_iff.mp e2
  have := (List.getElem_inj (up_nodup h)).mp (e3.trans e.symm)
  omega
end Xh

/-! The law's own defs, on: bundle_right. -/
namespace Xh
open PySem PySem.Spec PyProof.Rows L2 Evl
theorem okD_le {n : Int} : ∀ {ds : List PyData} {a b : Int}, okD n a ds = true → b ≤ a → okD n b ds = true
  | [], _, _, _, _ => rfl
  | d :: ds, a, b, h, hb => by
    cases d with
    | int l =>
      have h : (litB n l && !decide (iabs l ≤ a) && okD n (iabs l) ds) = true := h
      rw [Bool.and_eq_true, Bool.and_eq_true] at h
      obtain ⟨⟨h1, h2⟩, h3⟩ := h
      have h2' : ¬ iabs l ≤ a := fun q => by rw [decide_eq_true q] at h2; cases h2
      show (litB n l && !decide (iabs l ≤ b) && okD n (iabs l) ds) = true
      rw [h1, h3, decide_eq_false (by omega)]
      rfl
    | _ => cases h
theorem okD_filter {n : Int} (f : Int → Bool) : ∀ {c : Row} {a : Int}, okD n a (c.map .int) = true → okD n a ((c.filter f).map .int) = true
  | [], _, _ => rfl
  | l :: c, a, h => by
    have h : (litB n l && !decide (iabs l ≤ a) && okD n (iabs l) (c.map .int)) = true := h
    rw [Bool.and_eq_true, Bool.and_eq_true] at h
    obtain ⟨⟨h1, h2⟩, h3⟩ := h
    have h2' : ¬ iabs l ≤ a := fun q => by rw [decide_eq_true q] at h2; cases h2
    have ih := okD_filter f h3
    rw [List.filter_cons]
    split
    · show (litB n l && !decide (iabs l ≤ a) && okD n (iabs l) ((c.filter f).map .int)) = true
      rw [h1, ih, decide_eq_false h2']
      rfl
    · exact okD_le ih (by omega)
theorem okD_up {n : Int} : ∀ {c : Row} {a : Int}, UpI c → (∀ x ∈ c, a < x ∧ x ≤ n) → 0 ≤ a → okD n a (c.map .int) = true
  | [], _, _, _, _ => rfl
  | l :: c, a, h, hr, h0 => by
    obtain ⟨h1, h2⟩ := List.pairwise_cons.mp h
    have hl := hr l List.mem_cons_self
    have e : iabs l = l := by unfold iabs; split <;> omega
    have ih := okD_up (n := n) (a := l) h2 (fun x hx => ⟨h1 x hx, (hr x (List.mem_cons_of_mem _ hx)).2⟩) (by omega)
    show (litB n l && !decide (iabs l ≤ a) && okD n (iabs l) (c.map .int)) = true
    unfold litB
    rw [e, ih, decide_eq_true (show 1 ≤ l by omega), decide_eq_true hl.2, decide_eq_false (show ¬ l ≤ a by omega)]
    rfl
theorem lot_up {n : Int} {c : Row} (h : UpI c) (hr : ∀ x ∈ c, 1 ≤ x ∧ x ≤ n) : LotOk n c := by
  have h1 : okD n 0 (c.map .int) = true := okD_up h (fun x hx => ⟨by have := hr x hx; omega, (hr x hx).2⟩) (by decide)
  have h2 : (c.map PyData.int).all posB = true := by
    rw [List.all_map, List.all_eq_true]
    intro x hx
    exact decide_eq_true (show (0 : Int) < x by have := hr x hx; omega)
  show (okD n 0 (c.map .int) && (c.map PyData.int).all posB) = true
  rw [h1, h2]
  rfl
theorem cross_ok {n : Int} {cs : List Row} (h : BunOk n cs) (lot : Row) : BunOk n (crossM cs lot) where
  lo := h.lo
  hi := h.hi
  rows := fun c hc => by
    have hm := (List.mem_filter.mp (mem_norm.mp hc)).1
    obtain ⟨c0, h0, rfl⟩ := List.mem_map.mp hm
    exact okD_filter _ (h.rows c0 h0)
  up := up_norm _
  few := Nat.le_trans (norm_len _) (Nat.le_trans (List.length_filter_le _ _) (by rw [List.length_map]; exact h.few))
theorem cross_cross (cs : List Row) {lot more both : Row} (hb : ∀ a, a ∈ both ↔ a ∈ lot ∨ a ∈ more) : crossM (crossM cs lot) more = crossM cs both := by
  have e : ∀ c, cutRow more (cutRow lot c) = cutRow both c := fun c => by
    unfold cutRow
    rw [List.filter_filter]
    refine List.filter_congr fun x _ => ?_
    by_cases h1 : iabs x ∈ lot
    · simp [h1, (hb (iabs x)).mpr (.inl h1)]
    · by_cases h2 : iabs x ∈ more
      · simp [h2, (hb (iabs x)).mpr (.inr h2)]
      · have h3 : ¬ iabs x ∈ both := fun q => by
          rcases (hb _).mp q with q | q
          · exact h1 q
          · exact h2 q
        simp [h1, h2, h3]
  unfold crossM
  refine norm_congr fun z => ?_
  simp only [List.mem_filter, List.mem_map, mem_norm]
  constructor
  · rintro ⟨⟨c', ⟨⟨c, hc, rfl⟩, _⟩, rfl⟩, hz⟩
    exact ⟨⟨c, hc, (e c).symm⟩, hz⟩
  · rintro ⟨⟨c, hc, rfl⟩, hz⟩
    refine ⟨⟨cutRow lot c, ⟨⟨c, hc, rfl⟩, ?_⟩, e c⟩, hz⟩
    by_cases q : cutRow lot c = []
    · rw [← e c, q] at hz
      cases hz
    · rw [decide_eq_false q]
      rfl
theorem put_ok {n : Int} {cs : List Row} {c : Row} (h : BunOk n cs) (hc : rowDB n (rowD c) = true) (hl : cs.length < 16) : BunOk n (norm (cs ++ [c])) where
  lo := h.lo
  hi := h.hi
  rows := fun r hr => by
    rcases List.mem_append.mp (mem_norm.mp hr) with q | q
    · exact h.rows r q
    · rw [List.mem_singleton] at q
      rw [q]; exact hc
  up := up_norm _
  few := by
    have := norm_len (cs ++ [c])
    rw [List.length_append] at this
    have e : [c].length = 1 := rfl
    omega
theorem erase_ok {n : Int} {cs : List Row} (h : BunOk n cs) (i : Nat) : BunOk n (cs.eraseIdx i) where
  lo := h.lo
  hi := h.hi
  rows := fun r hr => h.rows r ((List.eraseIdx_sublist _ _).subset hr)
  up := up_erase h.up i
  few := by
    have := (List.eraseIdx_sublist cs i).length_le
    have := h.few
    omega
theorem putM_eq {cs : List Row} {c : Row} (h : Up cs) : putM cs c = norm (cs ++ [c]) := by
  unfold putM
  split
  · rw [norm_snoc_mem h (by assumption)]
  · rfl
section
variable {K : PySem.W.Frag} {σ : L2.St} {H H0 : Hp} {ta tb te ty tl : TE} {t : TT} {tz : TS} {D : Ends} {d c l p k : Addr} {n n' n1 n2 a b names lo hi lo' hi' : Int} {i j m : Nat} {R : PyData → Prop}
/-- picked one by one -/
theorem e_pick {vs : List Nat} (ha : EvD ta σ H (.int a)) (hb : EvD tb σ H (.int b)) (hab : -1000 ≤ a ∧ a ≤ 1000 ∧ -1000 ≤ b ∧ b ≤ 1000) (hw : ∀ x, wipe ((wipe σ vs).set i (some x)) vs = wipe σ vs) (hσ : ∀ x, ((wipe σ vs).set i (some x))[i]? = some (some x)) (st : StAt d c l n H)
    (ht : ∀ (j : Nat) x H1, Kd d l H H1 → StAt d c l (n + j) H1 → j < (b - a).toNat → EvBS t ((wipe σ vs).set i (some x)) d c l (n + j + 1) H1) :
    EvS (tCB (rTupQ K) (tCons (tLc (iRng2 (tCons ta (tCons tb tNil))) (gName i) t (tVar i) vs) tNil)) σ d c l (n + ((b - a).toNat : Int)) H (fun x => ∃ lot : Row, x = rowD lot ∧ lot.Sublist (rgI a b)) := fun H1 s1 Q q =>
  ha H1 s1 _ fun v H2 s2 tv => hb H2 (s1.trans s2) _ fun w H3 s3 tw => ⟨a, b, by rw [tp_int tv, tp_int tw], ⟨by omega, by omega, by omega, by omega⟩, fun Dl hD => by
    have s13 := (s1.trans s2).trans s3
    have st3 := st.same s13
    have off := st3.off hD
    refine lc_it (walk_range (lo := a) (n := (b - a).toNat)) (fun k H' => Kd d l H H' ∧ Kd d l H3 H' ∧ StAt d c l (n + k) H' ∧ ∃ lot : Row, H' Dl = some (.lst (lot.map V.int)) ∧ lot.Sublist ((rgI a b).take k)) ⟨(Kd.of s13).trans (Kd.of (Same.new hD)), Kd.of (Same.new hD), (st3.same (Same.new hD)).le (by omega), [], upd_same, List.nil_sublist _⟩ (fun _ _ _ _ => trivial) (fun k y H4 H5 hk p yy => ?_) fun H4 p => ?_
    · obtain ⟨rfl, rfl⟩ := yy
      obtain ⟨kd, kd3, st', lot, hL, hs⟩ := p
      refine ⟨hw _, ?_⟩
      have e1 : (rgI a b).take (k + 1) = (rgI a b).take k ++ [a + (k : Int)] := by
        rw [List.take_add_one]
        have e2 : (rgI a b)[k]? = some (a + (k : Int)) := by
          unfold rgI
          rw [List.getElem?_map, List.getElem?_range hk]
          rfl
        rw [e2]
        rfl
      refine ht k _ _ kd st' hk _ (Same.refl _) _ fun bb H6 k6 st6 => ?_
      have hL6 := k6 _ _ off.1 off.2.2 hL
      cases bb with
      | true =>
        refine ⟨_, hσ _, lot.map V.int, hL6, ?_, ?_⟩
        · have h1 := hs.length_le
          rw [List.length_take] at h1
          rw [List.length_map]
          exact Nat.lt_of_le_of_lt (show lot.length ≤ 100000 by omega) (by decide)
        · have hDn : H Dl = none := s13.free hD
          refine ⟨(kd.trans k6).mut hDn, (kd3.trans k6).mut hD, (st6.upd off.1 off.2.1 off.2.2).le (by omega), lot ++ [a + (k : Int)], ?_, ?_⟩
          · rw [upd_same, List.map_append]
            rfl
          · rw [e1]
            exact hs.append (List.Sublist.refl _)
      | false =>
        refine ⟨kd.trans k6, kd3.trans k6, st6.le (by omega), lot, hL6, ?_⟩
        rw [e1]
        exact hs.trans (List.sublist_append_left _ _)
    · obtain ⟨kd, kd3, st', lot, hL, hs⟩ := p
      rw [List.take_of_length_le (by rw [len_rgI]; exact Nat.le_refl _)] at hs
      refine ⟨Dl, lot.map V.int, rfl, .inl ⟨sql hL, fun z hz => ?_⟩⟩
      have kd13 : Kd d l H1 H4 := (Kd.of (s2.trans s3)).trans kd3
      exact q (.ref z) (rowD lot) _ (kd13.trans (Kd.of (Same.new hz))) (st'.same (Same.new hz)) (.tup upd_same (ints_tpAll lot)) ⟨lot, rfl, hs⟩⟩
theorem sub_rg {lot : Row} (h : lot.Sublist (rgI 1 (names + 1))) : UpI lot ∧ ∀ x ∈ lot, 1 ≤ x ∧ x ≤ names :=
  ⟨List.Pairwise.sublist h up_rgI, fun x hx => by have := mem_rgI.mp (h.subset hx); omega⟩
/-- names drawn one by one -/
theorem e_lot {vs : List Nat} (h2 : σ[2]? = some (some (.int names))) (hw : ∀ x, wipe ((wipe σ vs).set i (some x)) vs = wipe σ vs) (hσ : ∀ x, ((wipe σ vs).set i (some x))[i]? = some (some x)) (h0 : ∀ x, ((wipe σ vs).set i (some x))[0]? = some (some (.ref d))) (st : StAt d c l n H)
    (hn : 1 ≤ names ∧ names ≤ 7) (hl : n + 7 ≤ 1000000) :
    EvS (tCB (rTupQ K) (tCons (tLc (iRng2 (tCons (tC (.int 1)) (tCons (tOp (rI0 fun i j => .int (i + j)) (tVar 2) (tC (.int 1))) tNil))) (gName i) (tTest (tOp rEq (tCall sp_law_draw [] E0 (tCons (tVar 0) (tCons (tC (.int 3)) tNil))) (tC (.int 0)))) (tVar i) vs) tNil))
      σ d c l (n + 7) H (fun x => ∃ lot : Row, x = rowD lot ∧ lot.Sublist (rgI 1 (names + 1))) := by
  have h := e_pick (K := K) (σ := σ) (H := H) (vs := vs) (i := i) (a := 1) (b := names + 1) (d := d) (c := c) (l := l) (n := n) (t := tTest (tOp rEq (tCall sp_law_draw [] E0 (tCons (tVar 0) (tCons (tC (.int 3)) tNil))) (tC (.int 0)))) d_int (d_add (d_var h2 (.int names)) d_int) ⟨by decide, by decide, by omega, by omega⟩ hw hσ st
    (fun j y H5 k5 st5 hj => b_eq0 (e_call (3 : Int) ⟨by decide, by decide⟩ (h0 y) st5 (by omega) (a_cons d_int a_nil)))
  intro H1 s1 Q q
  exact h H1 s1 Q fun v x H2 k2 st2 tv hx => q v x H2 k2 (st2.le (by omega)) tv hx
/-- t[1].index(row), t's second a tuple whose object is known -/
theorem d_index {cs : List Row} {r : Row} {o : Obj} {xs : List V} {u : V} {z q : Addr} (hσ : σ[i]? = some (some (.ref z))) (ha : H z = some (.tup [u, .ref q])) (hb : H q = some (.frz o (.tup xs))) (hc : o.cls = .type "tuple") (hd : o.dict = none) (ht : TpAll H xs (cs.map rowD))
    (hr : EvD ty σ H (rowD r)) (hj : cs[j]? = some r) (hno : ∀ m : Nat, m < j → cs[m]? ≠ some r) : EvD (tBMZ (rIndexT K) (tOp (rIxT K) (tVar i) (tC (.int 1))) (tCons ty tNil)) σ H (.int (j : Int)) := fun H1 s Q qq =>
  ⟨.ref z, hσ, z, [u, .ref q], 1, .ref q, rfl, rfl, sqt (s _ _ ha), atI_nat (j := 1) rfl, ⟨q, o, _, rfl, s _ _ hb, hc, hd⟩, hr H1 s _ fun w H2 s2 tw =>
    ⟨q, w, rowD r, cs.map rowD, j, rowD r, rfl, rfl, .tup (.inl (.inr ⟨o, s2 _ _ (s _ _ hb)⟩)) (TpAll.dp _ _ ((ht.mono s).mono s2)), tw.toDp, shaped_rows cs, shaped_row r, by rw [List.getElem?_map, hj]; rfl, by rw [eqv_row]; exact decide_eq_true rfl, fun m z' hm hz' => by
      rw [List.getElem?_map] at hz'
      cases e : cs[m]? with
      | none => rw [e] at hz'; cases hz'
      | some c =>
        rw [e] at hz'
        have hz2 : rowD c = z' := Option.some.inj hz'
        subst hz2
        rw [eqv_row]
        exact decide_eq_false fun e2 => hno m hm (by rw [e, e2]), qq _ H2 s2 (.int _)⟩⟩
end
end Xh

set_option maxHeartbeats 2000000
/-! The law's own defs, on: bundle_right itself. -/
namespace Xh
open PySem PySem.Spec PyProof.Rows L2 Evl
section
variable {P : Program} {w : World} {K : PySem.W.Frag} {mg : Str → Option Value} {base : Heap} {t1 t2 : Tok}
abbrev s_law_bundle_right : Stmt := topS 44
abbrev N_law_bundle_right : List Str := ["state", "bundle", "names", "clauses", "k", "lot", "more", "due", "both", "clause", "number", "name", "one"]
theorem sc_law_bundle_right : FnScope N_law_bundle_right ["state", "bundle"] (defScope s_law_bundle_right) := ⟨rfl, rfl, rfl, by decide +kernel, rfl, by decide +kernel, by decide +kernel⟩
-- _law_bundle_right: {0: 'state', 1: 'bundle', 2: 'names', 3: 'clauses', 4: 'k', 5: 'lot', 6: 'more', 7: 'due', 8: 'both', 9: 'clause', 10: 'number', 11: 'name', 12: 'one'}
abbrev sp_law_bundle_right : Sp := spS (fun a : Int × List Row => [bunD a.1 a.2]) (fun a => BunOk a.1 a.2) 200 (fun _ x => x = .bool true)
theorem ok_law_bundle_right (D : Def K mg "_law_bundle_right" s_law_bundle_right ["state", "bundle"]) (B : Blt mg) (Fneed_bundle : Fn P w K mg base 5 "need_bundle" ["thing"] spneed_bundle) (Fcrossed : Fn P w K mg base 7 "crossed" ["bundle", "lot"] spcrossed)
    (Fneed_clause : Fn P w K mg base 6 "need_clause" ["bundle", "thing"] spneed_clause) (Fput_to : Fn P w K mg base 7 "put_to" ["bundle", "clause"] spput_to) (Fwithout : Fn P w K mg base 7 "without" ["bundle", "number"] spwithout)
    (F_law_crossed : Fn P w K mg base 1 "_law_crossed" ["bundle", "lot"] sp_law_crossed) (F_law_draw : Fn P w K mg base 2 "_law_draw" ["state", "many"] sp_law_draw) (F_law_clause : Fn P w K mg base 3 "_law_clause" ["state", "names"] sp_law_clause) :
    Fn P w K mg base 8 "_law_bundle_right" ["state", "bundle"] sp_law_bundle_right := by
  refine D.ok sc_law_bundle_right (fun vs H Q E h => ?_) (fun f cdv A outer s H vs Q E hr h => ?_)
  · obtain ⟨d, c, l, n, a, ws, rfl, t, _⟩ := h
    rw [List.length_cons, t.length]
    rfl
  · obtain ⟨d, c, l, n0, ⟨names, cs⟩, ws, rfl, t, st, hn, ok, q⟩ := h
    obtain ⟨v, rfl, tv⟩ := tpAll_one t
    have hu64 := hr.units
    have hu65 : (A.deeper (envOfC "_law_bundle_right" (defScope s_law_bundle_right) s.heap.objs.size f cdv)).units + 65 < cLine := by have := hr.un; omega
    have hu1 := hu_of hr
    refine ⟨_, (pss_cons (ps_asg (pv 1) (pg_tup rfl (pgs_cons (pg_name (i := 2) sc_law_bundle_right.nd rfl (Or.inl rfl)) (pgs_cons (pg_name (i := 3) sc_law_bundle_right.nd rfl (Or.inr rfl)) pgs_nil))))
      (pss_cons (ps_if (PW.pt (pw_or (pt_cmpR (r := rNeD K) (op_neD hu64) (pe_fn (Fneed_bundle.mono (by decide)) hr (pa_cons (pv 1) pa_nil)) (pv 1) (nomark _)) (pw_or1 (pt_cmpR (r := rNeD K) (op_neD hu64) (pe_fn (Fcrossed.mono (by decide)) hr (pa_cons (pv 1) (pa_cons (pe_tup pa_nil) pa_nil))) (pe_fn (F_law_crossed.mono (by decide)) hr (pa_cons (pv 1) (pa_cons (pe_tup pa_nil) pa_nil))) (nomark _))))) (pss_one (ps_ret pe_bl)) pss_nil)
      (pss_cons (ps_for (passes_of rfl) rfl (pi_range1 rfl B.range (pa_cons pe_int pa_nil)) (pg_name (i := 4) sc_law_bundle_right.nd rfl (Or.inl rfl)) (pss_cons (ps_set (i := 5) sc_law_bundle_right.nd rfl (Or.inl rfl) (pe_callTy (r := rTupQ K) call_tuple_of rfl B.tuple (by decide +kernel) (pa_cons (pe_lc (own := [("name", 11)]) (g := gName 11) rfl sc_law_bundle_right.nd (pi_range2 rfl B.range (pa_cons pe_int (pa_cons (pe_op op_add (pv 2) pe_int) pa_nil))) (blkOk_by (N := N_law_bundle_right) (sc := defScope s_law_bundle_right) (by decide +kernel)) (fun _ _ _ _ _ => pg_name (i := 11) sc_law_bundle_right.nd rfl (Or.inl rfl)) (fun _ _ _ _ _ => pts_one (pt_cmpR op_eq (pe_fn (F_law_draw.mono (by decide)) hr (pa_cons (pv 0) (pa_cons pe_int pa_nil))) pe_int (nomark _))) (fun _ _ _ _ _ => (pv 11))) pa_nil)))
      (pss_cons (ps_set (i := 6) sc_law_bundle_right.nd rfl (Or.inl rfl) (pe_callTy (r := rTupQ K) call_tuple_of rfl B.tuple (by decide +kernel) (pa_cons (pe_lc (own := [("name", 11)]) (g := gName 11) rfl sc_law_bundle_right.nd (pi_range2 rfl B.range (pa_cons pe_int (pa_cons (pe_op op_add (pv 2) pe_int) pa_nil))) (blkOk_by (N := N_law_bundle_right) (sc := defScope s_law_bundle_right) (by decide +kernel)) (fun _ _ _ _ _ => pg_name (i := 11) sc_law_bundle_right.nd rfl (Or.inl rfl)) (fun _ _ _ _ _ => pts_one (pt_cmpR op_eq (pe_fn (F_law_draw.mono (by decide)) hr (pa_cons (pv 0) (pa_cons pe_int pa_nil))) pe_int (nomark _))) (fun _ _ _ _ _ => (pv 11))) pa_nil)))
      (pss_cons (ps_set (i := 7) sc_law_bundle_right.nd rfl (Or.inl rfl) (pe_fn (F_law_crossed.mono (by decide)) hr (pa_cons (pv 1) (pa_cons (pv 5) pa_nil))))
      (pss_cons (ps_set (i := 8) sc_law_bundle_right.nd rfl (Or.inl rfl) (pe_callTy (r := rTupQ K) call_tuple_of rfl B.tuple (by decide +kernel) (pa_cons (pe_callB (r := rSortDIQ) (call_sortedDI rfl) rfl B.sorted (by decide +kernel) (pa_cons (pe_callTy (r := rDictPQ K) (call_dictP rfl) rfl B.dict (by decide +kernel) (pa_cons (pe_lc (own := [("name", 11)]) (g := gName 11) (tt := tYes) rfl sc_law_bundle_right.nd (pi_tup (pe_op (r := rCatA K) op_catA (pv 5) (pv 6))) (blkOk_by (N := N_law_bundle_right) (sc := defScope s_law_bundle_right) (by decide +kernel)) (fun _ _ _ _ _ => pg_name (i := 11) sc_law_bundle_right.nd rfl (Or.inl rfl)) (fun _ _ _ _ _ => pts_nil) (fun _ _ _ _ _ => (pe_tup (pa_cons (pv 11) (pa_cons pe_bl pa_nil))))) pa_nil)) pa_nil)) pa_nil)))
      (pss_cons (ps_if (PW.pt (pw_or (pt_cmpR (r := rNeD K) (op_neD hu64) (pe_fn (Fcrossed.mono (by decide)) hr (pa_cons (pv 1) (pa_cons (pv 5) pa_nil))) (pv 7) (nomark _)) (pw_or1 (pt_cmpR (r := rNeD K) (op_neD hu64) (pe_fn (Fcrossed.mono (by decide)) hr (pa_cons (pv 1) (pa_cons (pv 5) pa_nil))) (pv 7) (nomark _))))) (pss_one (ps_ret pe_bl)) pss_nil)
      (pss_cons (ps_if (pt_cmpR (r := rNeD K) (op_neD hu64) (pe_fn (Fcrossed.mono (by decide)) hr (pa_cons (pe_fn (Fcrossed.mono (by decide)) hr (pa_cons (pv 1) (pa_cons (pv 5) pa_nil))) (pa_cons (pv 6) pa_nil))) (pe_fn (Fcrossed.mono (by decide)) hr (pa_cons (pv 1) (pa_cons (pv 8) pa_nil))) (nomark _)) (pss_one (ps_ret pe_bl)) pss_nil)
      (pss_cons (ps_set (i := 9) sc_law_bundle_right.nd rfl (Or.inl rfl) (pe_fn (F_law_clause.mono (by decide)) hr (pa_cons (pv 0) (pa_cons (pv 2) pa_nil))))
      (pss_cons (ps_if (pt_cmpR (r := rNeD K) (op_neD hu64) (pe_fn (Fneed_clause.mono (by decide)) hr (pa_cons (pv 1) (pa_cons (pv 9) pa_nil))) (pv 9) (nomark _)) (pss_one (ps_ret pe_bl)) pss_nil)
      (pss_one (ps_if (pt_cmpR op_lt (pe_callB (r := rLenQ K) call_len_seq rfl B.len PySem.boot_len (pa_cons (pv 3) pa_nil)) pe_int (nomark _)) (pss_cons (ps_set (i := 7) sc_law_bundle_right.nd rfl (Or.inl rfl) (pe_tup (pa_cons (pv 2) (pa_cons (pe_callTy (r := rTupZ K) call_tupleZ rfl B.tuple (by decide +kernel) (pa_cons (pe_callB (r := rSortDT K) (cr_sortDT rfl hu64) rfl B.sorted (by decide +kernel) (pa_cons (pe_callTy (r := rDictT K) (call_dictT rfl hu64) rfl B.dict (by decide +kernel) (pa_cons (pe_lc (own := [("one", 12)]) (g := gName 12) (tt := tYes) rfl sc_law_bundle_right.nd (pi_tup (pe_op (r := rCatA K) op_catA (pv 3) (pe_tup (pa_cons (pv 9) pa_nil)))) (blkOk_by (N := N_law_bundle_right) (sc := defScope s_law_bundle_right) (by decide +kernel)) (fun _ _ _ _ _ => pg_name (i := 12) sc_law_bundle_right.nd rfl (Or.inl rfl)) (fun _ _ _ _ _ => pts_nil) (fun _ _ _ _ _ => (pe_tup (pa_cons (pv 12) (pa_cons pe_bl pa_nil))))) pa_nil)) pa_nil)) pa_nil)) pa_nil))))
      (pss_cons (ps_if (PW.pt (pw_or (pt_cmpR (r := rNeD K) (op_neD hu64) (pe_fn (Fput_to.mono (by decide)) hr (pa_cons (pv 1) (pa_cons (pv 9) pa_nil))) (pv 7) (nomark _)) (pw_or1 (pt_cmpR (r := rNeD K) (op_neD hu64) (pe_fn (Fput_to.mono (by decide)) hr (pa_cons (pv 1) (pa_cons (pv 9) pa_nil))) (pv 7) (nomark _))))) (pss_one (ps_ret pe_bl)) pss_nil)
      (pss_one (ps_if (PW.pt (pw_and (pt_cmpR (r := rNotInT K) (op_notInT hu65) (pv 9) (pv 3) (by rfl)) (pw_and1 (pt_cmpR (r := rNeD K) (op_neD hu64) (pe_fn (Fwithout.mono (by decide)) hr (pa_cons (pv 7) (pa_cons (pe_bmZ PySem.F.plainAttrs_tuple PySem.F.slot_tuple_index PySem.F.type_tuple_index (r := rIndexT K) (mt_indexT hu65) (pe_ix (r := rIxT K) ix_tup (pv 7) pe_int (fun _ _ => rfl)) (pa_cons (pv 9) pa_nil)) pa_nil))) (pv 1) (nomark _))))) (pss_one (ps_ret pe_bl)) pss_nil)))) pss_nil)))))))))))
      (pss_cons (ps_for (passes_of rfl) rfl (pi_range1 rfl B.range (pa_cons (pe_callB (r := rLenQ K) call_len_seq rfl B.len PySem.boot_len (pa_cons (pv 3) pa_nil)) pa_nil)) (pg_name (i := 10) sc_law_bundle_right.nd rfl (Or.inr rfl)) (pss_cons (ps_set (i := 7) sc_law_bundle_right.nd rfl (Or.inl rfl) (pe_tup (pa_cons (pv 2) (pa_cons (pe_callTy (r := rTupQ K) call_tuple_of rfl B.tuple (by decide +kernel) (pa_cons (pe_lc (own := [("clause", 9)]) (g := gName 9) rfl sc_law_bundle_right.nd (pi_tup (pv 3)) (blkOk_by (N := N_law_bundle_right) (sc := defScope s_law_bundle_right) (by decide +kernel)) (fun _ _ _ _ _ => pg_name (i := 9) sc_law_bundle_right.nd rfl (Or.inl rfl)) (fun _ _ _ _ _ => pts_one (pt_cmpR (r := rNeD K) (op_neD hu64) (pv 9) (pe_ix (r := rIxT K) ix_tup (pv 3) (pv 10) (fun _ _ => rfl)) (nomark _))) (fun _ _ _ _ _ => (pv 9))) pa_nil)) pa_nil))))
      (pss_one (ps_if (PW.pt (pw_or (pt_cmpR (r := rNeD K) (op_neD hu64) (pe_fn (Fwithout.mono (by decide)) hr (pa_cons (pv 1) (pa_cons (pv 10) pa_nil))) (pv 7) (nomark _)) (pw_or1 (pt_cmpR (r := rNeD K) (op_neD hu64) (pe_fn (Fput_to.mono (by decide)) hr (pa_cons (pv 7) (pa_cons (pe_ix (r := rIxT K) ix_tup (pv 3) (pv 10) (fun _ _ => rfl)) pa_nil))) (pv 1) (nomark _))))) (pss_one (ps_ret pe_bl)) pss_nil))))
      (pss_one (ps_ret pe_bl)))))), ?_⟩
    have ok : BunOk names cs := ok
    have lo : 1 ≤ names := ok.lo
    have hi : names ≤ 7 := ok.hi
    have few : cs.length ≤ 16 := ok.few
    have lens : cs.length ≤ 1000 ∧ ∀ c ∈ cs, c.length ≤ 1000 := ⟨by omega, fun c hc => by
      have h1 := row_len (ok.rows c hc) (by omega)
      omega⟩
    refine q_unpack (d_var rfl tv) fun vn vc H1 s1 tn tc => ?_
    rw [tp_int tn]
    have tv1 := tv.mono s1
    have st1 := st.same s1
    have lot0 : LotOk names [] := lot_up List.Pairwise.nil fun x hx => by simp at hx
    have d0 : ∀ {σ H}, EvD (tTup tNil) σ H (rowD []) := fun {σ H} => d_tup a_nil (by decide)
    refine q_skip (EvB.is (b_or (b_test (d_neBun (n := names) (m := names) (x := cs) (y := cs) (d_call (names, cs) ok (a_cons (d_var rfl tv1) a_nil)) (d_var rfl tv1))) fun _ => b_test (d_neBun (n := names) (m := names) (x := crossM cs []) (y := crossM cs []) (d_call (names, cs, []) ⟨ok, lot0⟩ (a_cons (d_var rfl tv1) (a_cons d0 a_nil))) (d_call (names, cs, []) lens (a_cons (d_var rfl tv1) (a_cons d0 a_nil))))) (by simp)) fun H2 s2 => ?_
    have s12 := s1.trans s2
    refine q_forR (n := 4) d_int (by decide) fun H3 s3 => ⟨fun i σ' H' => ∃ y4 y5 y6 y7 y8 y9 y10 y11 y12, σ' = [some (.ref d), some v, some (.int names), some vc, y4, y5, y6, y7, y8, y9, y10, y11, y12] ∧ Kd d l H H' ∧ StAt d c l (n0 + 40 * (i : Int)) H' ∧ Tp H' v (bunD names cs) ∧ Tp H' vc (rowsD cs),
      ⟨_, _, _, _, _, _, _, _, _, rfl, Kd.of (s12.trans s3), (st.same (s12.trans s3)).le (by omega), tv.mono (s12.trans s3), tc.mono (s2.trans s3)⟩, fun i σ' H' hi' p => ?_, fun σ' H' p => ?_⟩
    · obtain ⟨y4, y5, y6, y7, y8, y9, y10, y11, y12, rfl, kd, st', tv', tc'⟩ := p
      have hi4 : (i : Int) < 4 := hi'
      refine q_asgS (e_lot (n := n0 + 40 * (i : Int)) rfl (fun _ => rfl) (fun _ => rfl) (fun _ => rfl) st' ⟨lo, hi⟩ (by omega)) fun vlot x H4 k4 st4 tlot hx => ?_
      obtain ⟨lot, rfl, slot⟩ := hx
      obtain ⟨lup, lrg⟩ := sub_rg slot
      have lok : LotOk names lot := lot_up lup lrg
      have tv4 := tv'.mono' (Kd.ts st' k4)
      have tc4 := tc'.mono' (Kd.ts st' k4)
      refine q_asgS (e_lot (n := n0 + 40 * (i : Int) + 7) rfl (fun _ => rfl) (fun _ => rfl) (fun _ => rfl) st4 ⟨lo, hi⟩ (by omega)) fun vmore x H5 k5 st5 tmore hx => ?_
      obtain ⟨more, rfl, smore⟩ := hx
      obtain ⟨mup, mrg⟩ := sub_rg smore
      have mok : LotOk names more := lot_up mup mrg
      have tv5 := tv4.mono' (Kd.ts st4 k5)
      have tc5 := tc4.mono' (Kd.ts st4 k5)
      have tl5 := tlot.mono' (Kd.ts st4 k5)
      have llen : lot.length ≤ 7 := by have := slot.length_le; rw [len_rgI] at this; omega
      have mlen : more.length ≤ 7 := by have := smore.length_le; rw [len_rgI] at this; omega
      refine q_asg (d_call (names, cs, lot) lens (a_cons (d_var rfl tv5) (a_cons (d_var rfl tl5) a_nil))) fun vdue H6 s6 tdue => ?_
      have eboth : ((((lot.map PyData.int) ++ (more.map PyData.int)).filter fun _ => true).map fun x => pairI (unInt x)) = (lot ++ more).map pairI := by
        rw [List.filter_eq_self.mpr (fun _ _ => rfl), ← List.map_append, List.map_map]
        rfl
      refine q_asg (d := rowD (normI (lot ++ more))) (d_tupOf (EvLs.v (l_sortI (ns := lot ++ more) (EvLs.v (EvLs.is (l_comp (ds := (lot.map PyData.int) ++ (more.map PyData.int)) (fun _ => true) (fun x => pairI (unInt x)) (d_cat (d_var rfl (tl5.mono s6)) (d_var rfl (tmore.mono s6)) (by rw [List.length_map, List.length_map]; omega)) (by rw [List.length_append, List.length_map, List.length_map]; omega) (fun _ => rfl) (fun _ _ _ _ _ _ => b_yes) fun x u H7 s7 hm tu _ => ?_) eboth)) (by rw [List.length_append]; omega)))) fun vboth H7 s7 tboth => ?_
      · have hx : ∃ z, x = .int z := by
          rcases List.mem_append.mp hm with h | h
          · obtain ⟨z, _, e⟩ := List.mem_map.mp h
            exact ⟨z, e.symm⟩
          · obtain ⟨z, _, e⟩ := List.mem_map.mp h
            exact ⟨z, e.symm⟩
        obtain ⟨z, rfl⟩ := hx
        exact d_tup (a_cons (d_var rfl tu) (a_cons d_bl a_nil)) (by show 2 ≤ 100000; decide)
      have bmem : ∀ a, a ∈ normI (lot ++ more) ↔ a ∈ lot ∨ a ∈ more := fun a => by rw [mem_normI, List.mem_append]
      have bok : LotOk names (normI (lot ++ more)) := lot_up (up_normI _) fun x hx => by
        rcases (bmem x).mp hx with h | h
        · exact lrg x h
        · exact mrg x h
      have s67 := s6.trans s7
      have dv : ∀ {σ : L2.St} {H8}, Same H7 H8 → σ[1]? = some (some v) → EvD (tVar 1) σ H8 (bunD names cs) := fun s8 e => d_var e (tv5.mono (s67.trans s8))
      refine q_skip (EvB.is (b_or (b_test (d_neBun (n := names) (m := names) (x := crossM cs lot) (y := crossM cs lot) (d_call (names, cs, lot) ⟨ok, lok⟩ (a_cons (dv (Same.refl _) rfl) (a_cons (d_var rfl (tl5.mono s67)) a_nil))) (d_var rfl (tdue.mono s7)))) fun _ => b_test (d_neBun (n := names) (m := names) (x := crossM cs lot) (y := crossM cs lot) (d_call (names, cs, lot) ⟨ok, lok⟩ (a_cons (dv (Same.refl _) rfl) (a_cons (d_var rfl (tl5.mono s67)) a_nil))) (d_var rfl (tdue.mono s7)))) (by simp)) fun H8 s8 => ?_
      have s68 := s67.trans s8
      refine q_skip (EvB.is (b_test (d_neBun (n := names) (m := names) (x := crossM (crossM cs lot) more) (y := crossM cs (normI (lot ++ more))) (d_call (names, crossM cs lot, more) ⟨cross_ok ok lot, mok⟩ (a_cons (d_call (names, cs, lot) ⟨ok, lok⟩ (a_cons (dv s8 rfl) (a_cons (d_var rfl (tl5.mono s68)) a_nil))) (a_cons (d_var rfl (tmore.mono s68)) a_nil))) (d_call (names, cs, normI (lot ++ more)) ⟨ok, bok⟩ (a_cons (dv s8 rfl) (a_cons (d_var rfl (tboth.mono s8)) a_nil))))) (by rw [cross_cross cs bmem]; simp)) fun H9 s9 => ?_
      have s69 := s68.trans s9
      have st9 := st5.same s69
      refine q_asgS (d := d) (c := c) (l := l) (n' := n0 + 40 * (i : Int) + 7 + 7 + 20) (e_call names ⟨lo, hi⟩ rfl st9 (by omega) (a_cons (d_var rfl (.int names)) a_nil)) fun vcl x H10 k10 st10 tcl hx => ?_
      obtain ⟨cl, rfl, hcl⟩ := hx
      have tv10 := (tv5.mono s69).mono' (Kd.ts st9 k10)
      have tc10 := (tc5.mono s69).mono' (Kd.ts st9 k10)
      have kd10 : Kd d l H H10 := (((kd.trans k4).trans k5).trans (Kd.of s69)).trans k10
      refine q_skip (EvB.is (b_test (d_neRow (x := cl) (y := cl) (d_call (names, cs, cl) ⟨ok, hcl⟩ (a_cons (d_var rfl tv10) (a_cons (d_var rfl tcl) a_nil))) (d_var rfl tcl))) (by simp)) fun H11 s11 => ?_
      have kd11 := kd10.trans (Kd.of s11)
      have st11 := st10.same s11
      have tv11 := tv10.mono s11
      have tc11 := tc10.mono s11
      have tcl11 := tcl.mono s11
      refine s_when (b_test (d_lt (d_len (d_var rfl tc11)) d_int)) (fun hb H12 s12 => ?_) fun hb H12 s12 => ?_
      · have hlt : cs.length < 16 := by
          have h := of_decide_eq_true hb
          rw [List.length_map] at h
          omega
        have eone : ((((cs.map rowD) ++ [rowD cl]).filter fun _ => true).map fun x => pairR (unRow x)) = (cs ++ [cl]).map pairR := by
          rw [List.filter_eq_self.mpr (fun _ _ => rfl), show (cs.map rowD) ++ [rowD cl] = (cs ++ [cl]).map rowD by rw [List.map_append]; rfl, List.map_map]
          refine List.map_congr_left fun r _ => ?_
          show pairR (unRow (rowD r)) = pairR r
          rw [unRow_row]
        have hfz : isFz ((norm (cs ++ [cl])).map rowD) = true := by
          cases e : norm (cs ++ [cl]) with
          | nil =>
            have : cl ∈ norm (cs ++ [cl]) := mem_norm.mpr (by simp)
            rw [e] at this
            simp at this
          | cons r rs => rfl
        refine q_asgZ (d := .int names) (es := (norm (cs ++ [cl])).map rowD) (d_var rfl (.int names)) (EvLs.v (l_sortR (cs := cs ++ [cl]) (EvLs.v (EvLs.is (l_comp (ds := (cs.map rowD) ++ [rowD cl]) (fun _ => true) (fun x => pairR (unRow x)) (d_cat (d_var rfl (tc11.mono s12)) (d_tup (a_cons (d_var rfl (tcl11.mono s12)) a_nil) (by show 1 ≤ 100000; decide)) (by rw [List.length_map]; show cs.length + 1 ≤ 100000; omega)) (by rw [List.length_append, List.length_map]; show cs.length + 1 ≤ 90000; omega) (fun _ => rfl) (fun _ _ _ _ _ _ => b_yes) fun x u H13 s13 hm tu _ => ?_) eone)))) hfz fun vd bz oz xz H13 s13 td hvd hbz hcz hdz txz => ?_
        · have hx : ∃ z, x = rowD z := by
            rcases List.mem_append.mp hm with h | h
            · obtain ⟨z, _, e⟩ := List.mem_map.mp h
              exact ⟨z, e.symm⟩
            · rw [List.mem_singleton] at h
              exact ⟨cl, h⟩
          obtain ⟨z, rfl⟩ := hx
          rw [unRow_row]
          exact d_tup (a_cons (d_var rfl tu) (a_cons d_bl a_nil)) (by show 2 ≤ 100000; decide)
        have sA := s12.trans s13
        have td : Tp H13 vd (bunD names (norm (cs ++ [cl]))) := td
        have hput : (bunD names (putM cs cl)) = bunD names (norm (cs ++ [cl])) := by rw [putM_eq ok.up]
        refine q_skip (EvB.is (b_or (b_test (d_neBun (n := names) (m := names) (x := norm (cs ++ [cl])) (y := norm (cs ++ [cl])) (EvD.is (d_call (names, cs, cl) ⟨ok, hcl, .inr hlt⟩ (a_cons (d_var rfl (tv11.mono sA)) (a_cons (d_var rfl (tcl11.mono sA)) a_nil))) hput) (d_var rfl td))) fun _ => b_test (d_neBun (n := names) (m := names) (x := norm (cs ++ [cl])) (y := norm (cs ++ [cl])) (EvD.is (d_call (names, cs, cl) ⟨ok, hcl, .inr hlt⟩ (a_cons (d_var rfl (tv11.mono sA)) (a_cons (d_var rfl (tcl11.mono sA)) a_nil))) hput) (d_var rfl td))) (by simp)) fun H14 s14 => ?_
        have sB := sA.trans s14
        obtain ⟨az, uz, rfl, haz⟩ := hvd
        obtain ⟨j, hj, hno⟩ := first_place (up_norm (cs ++ [cl])) (mem_norm.mpr (show cl ∈ cs ++ [cl] by simp))
        have hjl : j < (norm (cs ++ [cl])).length := (List.getElem?_eq_some_iff.mp hj).1
        refine s_skip (EvB.is (b_and (b := !decide (cl ∈ cs)) (c := false) (b_test (d_niRs (d_var rfl (tcl11.mono sB)) (d_var rfl (tc11.mono sB)))) fun hb2 => ?_) (by rw [Bool.and_false])) fun H15 s15 => ?_
        · have hncs : ¬ cl ∈ cs := of_decide_eq_false (by simpa using hb2)
          refine EvB.is (b_test (d_neBun (n := names) (m := names) (x := cs) (y := cs) (EvD.is (d_call (names, norm (cs ++ [cl]), (j : Int)) ⟨put_ok ok hcl hlt, by show (0 : Int) ≤ (j : Int); omega, by show (j : Int) < ((norm (cs ++ [cl])).length : Int); omega⟩ (a_cons (d_var rfl (td.mono s14)) (a_cons (d_index (cs := norm (cs ++ [cl])) (r := cl) rfl (s14 _ _ haz) (s14 _ _ hbz) hcz hdz (txz.mono s14) (d_var rfl (tcl11.mono sB)) hj hno) a_nil))) ?_) (d_var rfl (tv11.mono sB)))) (by simp)
          show bunD names ((norm (cs ++ [cl])).eraseIdx ((j : Int)).toNat) = bunD names cs
          rw [Int.toNat_natCast, erase_put ok.up hncs hj]
        · have sC := sB.trans s15
          exact ⟨_, _, _, _, _, _, _, _, _, rfl, kd11.trans (Kd.of sC), (st11.same sC).le (by omega), tv11.mono sC, tc11.mono sC⟩
      · exact ⟨_, _, _, _, _, _, _, _, _, rfl, kd11.trans (Kd.of s12), (st11.same s12).le (by omega), tv11.mono s12, tc11.mono s12⟩
    · obtain ⟨y4, y5, y6, y7, y8, y9, y10, y11, y12, rfl, kd, st', tv', tc'⟩ := p
      refine q_forR (d_len (d_var rfl tc')) (by rw [List.length_map]; omega) fun H4 s4 => ⟨fun i σ' H' => ∃ y4 y5 y6 y7 y8 y9 y10 y11 y12, σ' = [some (.ref d), some v, some (.int names), some vc, y4, y5, y6, y7, y8, y9, y10, y11, y12] ∧ Kd d l H H' ∧ StAt d c l (n0 + 160) H' ∧ Tp H' v (bunD names cs) ∧ Tp H' vc (rowsD cs),
        ⟨_, _, _, _, _, _, _, _, _, rfl, kd.trans (Kd.of s4), (st'.same s4).le (by show n0 + 40 * 4 ≤ n0 + 160; omega), tv'.mono s4, tc'.mono s4⟩, fun i σ' H' hi' p => ?_, fun σ' H' p => ?_⟩
      · obtain ⟨z4, z5, z6, z7, z8, z9, z10, z11, z12, rfl, kd5, st5, tv5, tc5⟩ := p
        have hil : i < cs.length := by
          rw [List.length_map] at hi'
          omega
        have hat : cs[i]? = some cs[i] := List.getElem?_eq_getElem hil
        have datc : ∀ {H6 : Hp} {u : V}, Tp H6 u (rowsD cs) → atI (cs.map rowD) (i : Int) = some (rowD cs[i]) := fun _ => atI_nat (by rw [List.getElem?_map, hat]; rfl)
        refine q_asg (d := bunD names (cs.eraseIdx i)) (EvD.is (d_tup (a_cons (d_var rfl (.int names)) (a_cons (d_tupOf (EvLs.v (l_compRs (cs := cs) (fun r => !decide (r = cs[i])) rowD (d_var rfl tc5) (by omega) (fun _ => rfl) (fun r u H6 s6 hm tu => ?_) fun r u H6 s6 hm tu _ => d_var rfl tu))) a_nil)) (by show 2 ≤ 100000; decide)) ?_) fun vdue H6 s6 tdue => ?_
        · exact b_test (d_neRow (x := r) (y := cs[i]) (d_var rfl tu) (d_ix (ds := cs.map rowD) (d_var rfl (tc5.mono s6)) (d_var rfl (.int _)) (datc (tc5.mono s6))))
        · rw [filter_erase ok.up hil]
          rfl
        · have hpe : bunD names (putM (cs.eraseIdx i) cs[i]) = bunD names cs := by rw [putM_eq (up_erase ok.up i), put_erase ok.up hil]
          have hlen : (cs.eraseIdx i).length < 16 := by
            rw [List.length_eraseIdx_of_lt hil]
            omega
          refine s_skip (EvB.is (b_or (b_test (d_neBun (n := names) (m := names) (x := cs.eraseIdx i) (y := cs.eraseIdx i) (d_call (names, cs, (i : Int)) ⟨ok, by show (0 : Int) ≤ (i : Int); omega, by show (i : Int) < (cs.length : Int); omega⟩ (a_cons (d_var rfl (tv5.mono s6)) (a_cons (d_var rfl (.int _)) a_nil))) (d_var rfl tdue))) fun _ => b_test (d_neBun (n := names) (m := names) (x := cs) (y := cs) (EvD.is (d_call (names, cs.eraseIdx i, cs[i]) ⟨erase_ok ok i, ok.rows _ (List.getElem_mem hil), .inr hlen⟩ (a_cons (d_var rfl tdue) (a_cons (d_ix (ds := cs.map rowD) (d_var rfl (tc5.mono s6)) (d_var rfl (.int _)) (datc (tc5.mono s6))) a_nil))) hpe) (d_var rfl (tv5.mono s6)))) (by simp)) fun H7 s7 => ?_
          have s67 := s6.trans s7
          exact ⟨_, _, _, _, _, _, _, _, _, rfl, kd5.trans (Kd.of s67), st5.same s67, tv5.mono s67, tc5.mono s67⟩
      · obtain ⟨z4, z5, z6, z7, z8, z9, z10, z11, z12, rfl, kd5, st5, tv5, tc5⟩ := p
        exact s_ret d_bl fun y H6 s6 ty => q y _ H6 (kd5.trans (Kd.of s6)) ((st5.same s6).le (by omega)) ty rfl
end
end Xh

set_option maxHeartbeats 2000000
/-! The law. -/
namespace Xh
open PySem PySem.Spec PyProof.Rows L2 Evl
section
variable {K : PySem.W.Frag} {σ : L2.St} {H : Hp} {ta tb te : TE} {tu tz : TS} {D : Ends} {d c l : Addr} {n n1 n' k : Int} {i : Nat} {R R1 : PyData → Prop}
/-- a drawing def, called on what is drawn -/
theorem e_callS {α : Type} {enc : α → List PyData} {pre : α → Prop} {R : α → PyData → Prop} (hi : σ[i]? = some (some (.ref d))) (hb : EvS tb σ d c l n1 H R1) (hR : ∀ x, R1 x → ∃ a, enc a = [x] ∧ pre a) (hn : n1 + k ≤ 1000000) :
    EvS (tCall (spS enc pre k R) [] E0 (tCons (tVar i) (tCons tb tNil))) σ d c l (n1 + k) H (fun y => ∃ a, R a y) := fun H1 s Q q => by
  refine ⟨.ref d, hi, hb H1 s _ fun v x H2 k2 st2 tv hx => ?_⟩
  obtain ⟨a, ea, hp⟩ := hR x hx
  refine ⟨d, c, l, n1, a, [v], rfl, by rw [ea]; exact .cons tv .nil, st2, hn, hp, fun w y H3 k3 st3 tw hy => ?_⟩
  exact q w y H3 (k2.trans k3) st3 tw ⟨a, hy⟩
/-- if not drawn: .., drawn true -/
theorem s_skipS (h : EvS te σ d c l n' H (fun x => x = .bool true)) (k : ∀ H1, Kd d l H H1 → StAt d c l n' H1 → D.nx σ H1) : tIfS (tNot (tB te)) tu tNext D σ H := h H (Same.refl _) _ fun v x H1 k1 st1 tv hx => by
  subst hx
  exact ⟨true, tp_bl tv, k H1 k1 st1⟩
end
section
variable {P : Program} {w : World} {K : PySem.W.Frag} {mg : Str → Option Value} {base : Heap} {t1 t2 : Tok}
abbrev slaw : Stmt := topS 45
abbrev Nlaw : List Str := ["script", "state", "turn", "bundle"]
theorem sclaw : FnScope Nlaw ["script"] (defScope slaw) := ⟨rfl, rfl, rfl, by decide +kernel, rfl, by decide +kernel, by decide +kernel⟩
-- law: {0: 'script', 1: 'state', 2: 'turn', 3: 'bundle'}
def b4 : List Row := [[], [-1, 2], [1, -2, 3], [2]]
abbrev splaw (K : PySem.W.Frag) : Sp := fun vs H Q _ => ∃ (a : Addr) (ns : Row), vs = [.ref a] ∧ SqL K H a (ns.map V.int) ∧ ns.length ≤ 63 ∧ ∀ H', Q (.bl true) H'
theorem oklaw {fL : Addr} {fdL : FuncData} (F : Fun K "law" "law" slaw fL fdL) (B : Blt mg) (F_law_begin : Fn P w K mg base 1 "_law_begin" ["script"] (sp_law_begin K)) (F_law_bundle : Fn P w K mg base 4 "_law_bundle" ["state", "most", "many"] sp_law_bundle) (F_law_bundle_right : Fn P w K mg base 8 "_law_bundle_right" ["state", "bundle"] sp_law_bundle_right)
    (Fcrossed : Fn P w K mg base 7 "crossed" ["bundle", "lot"] spcrossed) (Fput_to : Fn P w K mg base 7 "put_to" ["bundle", "clause"] spput_to) (Fwithout : Fn P w K mg base 7 "without" ["bundle", "number"] spwithout) : FnOk P w K mg base (L2.CX P w) 9 fL fdL ["script"] (splaw K) := by
  refine F.okX sclaw (fun vs H Q E h => ?_) (fun cdv A outer s H vs Q E hr h => ?_)
  · obtain ⟨a, ns, rfl, _⟩ := h
    rfl
  · obtain ⟨a, ns, rfl, hS, hz, q⟩ := h
    have hu64 := hr.units
    refine ⟨_, (pss_cons (ps_set (i := 1) sclaw.nd rfl (Or.inl rfl) (pe_fn (F_law_begin.mono (by decide)) hr (pa_cons (pv 0) pa_nil)))
      (pss_cons (ps_for (passes_of rfl) rfl (pi_range1 rfl B.range (pa_cons pe_int pa_nil)) (pg_name (i := 2) sclaw.nd rfl (Or.inl rfl)) (pss_one (ps_if (pt_not (pt_val (pe_fn (F_law_bundle_right.mono (by decide)) hr (pa_cons (pv 1) (pa_cons (pe_fn (F_law_bundle.mono (by decide)) hr (pa_cons (pv 1) (pa_cons pe_int (pa_cons pe_int pa_nil)))) pa_nil))))) (pss_one (ps_ret pe_bl)) pss_nil)))
      (pss_cons (ps_set (i := 3) sclaw.nd rfl (Or.inl rfl) (pe_tup (pa_cons pe_int (pa_cons (pe_tup (pa_cons (pe_tup pa_nil) (pa_cons (pe_tup (pa_cons (pe_un un_neg pe_int) (pa_cons pe_int pa_nil))) (pa_cons (pe_tup (pa_cons pe_int (pa_cons (pe_un un_neg pe_int) (pa_cons pe_int pa_nil)))) (pa_cons (pe_tup (pa_cons pe_int pa_nil)) pa_nil))))) pa_nil))))
      (pss_cons (ps_if (PW.pt (pw_or (pt_cmpR (r := rNeD K) (op_neD hu64) (pe_fn (Fcrossed.mono (by decide)) hr (pa_cons (pv 3) (pa_cons (pe_tup (pa_cons pe_int pa_nil)) pa_nil))) (pe_tup (pa_cons pe_int (pa_cons (pe_tup (pa_cons (pe_tup (pa_cons (pe_un un_neg pe_int) (pa_cons pe_int pa_nil))) (pa_cons (pe_tup (pa_cons pe_int pa_nil)) pa_nil))) pa_nil))) (nomark _)) (pw_or1 (pt_cmpR (r := rNeD K) (op_neD hu64) (pe_fn (Fcrossed.mono (by decide)) hr (pa_cons (pv 3) (pa_cons (pe_tup (pa_cons pe_int (pa_cons pe_int (pa_cons pe_int pa_nil)))) pa_nil))) (pe_tup (pa_cons pe_int (pa_cons (pe_tup pa_nil) pa_nil))) (nomark _))))) (pss_one (ps_ret pe_bl)) pss_nil)
      (pss_one (ps_ret (pe_and (pe_cmpR (r := rEqD K) (op_eqD hu64) (pe_fn (Fput_to.mono (by decide)) hr (pa_cons (pe_tup (pa_cons pe_int (pa_cons (pe_tup pa_nil) pa_nil))) (pa_cons (pe_tup (pa_cons pe_int pa_nil)) pa_nil))) (pe_tup (pa_cons pe_int (pa_cons (pe_tup (pa_cons (pe_tup (pa_cons pe_int pa_nil)) pa_nil)) pa_nil))) (nomark _)) (pe_one (pe_cmpR (r := rEqD K) (op_eqD hu64) (pe_fn (Fwithout.mono (by decide)) hr (pa_cons (pe_tup (pa_cons pe_int (pa_cons (pe_tup (pa_cons (pe_tup pa_nil) pa_nil)) pa_nil))) (pa_cons pe_int pa_nil))) (pe_tup (pa_cons pe_int (pa_cons (pe_tup pa_nil) pa_nil))) (nomark _)))))))))), ?_⟩
    refine ⟨.ref a, rfl, a, ns, rfl, hS, hz, fun d c l H1 s1 st1 => ?_⟩
    refine q_forR (n := 6) d_int (by decide) fun H2 s2 => ⟨fun i σ' H' => ∃ y2 y3, σ' = [some (.ref a), some (.ref d), y2, y3] ∧ StAt d c l (500 * (i : Int)) H', ⟨_, _, rfl, (st1.same s2).le (by omega)⟩, fun i σ' H' hi p => ?_, fun σ' H' p => ?_⟩
    · obtain ⟨y2, y3, rfl, st'⟩ := p
      have hi6 : (i : Int) < 6 := hi
      refine s_skipS (EvS.imp (e_callS rfl (e_call (n := 500 * (i : Int)) ((7, 12) : Int × Int) ⟨by decide, by decide, by decide, by decide⟩ rfl st' (by omega) (a_cons d_int (a_cons d_int a_nil))) (fun x hx => ?_) (by omega)) fun y hy => ?_) fun H3 k3 st3 => ?_
      · obtain ⟨n, cs, rfl, ok⟩ := hx
        exact ⟨(n, cs), rfl, ok⟩
      · obtain ⟨_, hy⟩ := hy
        exact hy
      · exact ⟨_, _, rfl, st3.le (by omega)⟩
    · obtain ⟨y2, y3, rfl, st'⟩ := p
      have ok4 : BunOk 3 b4 := ⟨by decide, by decide, by decide +kernel, by unfold Up; decide +kernel, by decide⟩
      have dE : ∀ {σ H}, EvD (tTup tNil) σ H (rowD []) := fun {σ H} => d_tup a_nil (by decide)
      have dR : ∀ {σ H} {tr : TA} {r : Row}, EvDs tr σ H (r.map .int) → r.length ≤ 100 → EvD (tTup tr) σ H (rowD r) := fun {σ H tr r} h hz => d_tup h (by rw [List.length_map]; omega)
      have dRs : ∀ {σ H} {tr : TA} {cs : List Row}, EvDs tr σ H (cs.map rowD) → cs.length ≤ 100 → EvD (tTup tr) σ H (rowsD cs) := fun {σ H tr r} h hz => d_tup h (by rw [List.length_map]; omega)
      have dB : ∀ {σ H} {ta tb : TE} {n : Int} {cs : List Row}, EvD ta σ H (.int n) → EvD tb σ H (rowsD cs) → EvD (tTup (tCons ta (tCons tb tNil))) σ H (bunD n cs) := fun {σ H ta tb n cs} h1 h2 => d_tup (a_cons h1 (a_cons h2 a_nil)) (by show 2 ≤ 100000; decide)
      have dM : ∀ {σ H} {i : Int}, EvD (tUn (rU fun i => .int (-i)) (tC (.int i))) σ H (.int (-i)) := fun {σ H i} => d_neg d_int
      refine q_asg (d := bunD 3 b4) (dB d_int (dRs (cs := b4) (a_cons dE (a_cons (dR (r := [-1, 2]) (a_cons dM (a_cons d_int a_nil)) (by decide)) (a_cons (dR (r := [1, -2, 3]) (a_cons d_int (a_cons dM (a_cons d_int a_nil))) (by decide)) (a_cons (dR (r := [2]) (a_cons d_int a_nil) (by decide)) a_nil)))) (by decide))) fun vb H3 s3 tb => ?_
      have l1 : LotOk 3 [1] := by unfold LotOk; decide +kernel
      have l3 : LotOk 3 [1, 2, 3] := by unfold LotOk; decide +kernel
      have c1 : crossM b4 [1] = [[-2, 3], [2]] := by decide +kernel
      have c3 : crossM b4 [1, 2, 3] = [] := by decide +kernel
      refine q_skip (EvB.is (b_or (b_test (d_neBun (n := 3) (m := 3) (x := crossM b4 [1]) (y := [[-2, 3], [2]]) (d_call (3, b4, [1]) ⟨ok4, l1⟩ (a_cons (d_var rfl tb) (a_cons (dR (r := [1]) (a_cons d_int a_nil) (by decide)) a_nil))) (dB d_int (dRs (cs := [[-2, 3], [2]]) (a_cons (dR (r := [-2, 3]) (a_cons dM (a_cons d_int a_nil)) (by decide)) (a_cons (dR (r := [2]) (a_cons d_int a_nil) (by decide)) a_nil)) (by decide))))) fun _ =>
        b_test (d_neBun (n := 3) (m := 3) (x := crossM b4 [1, 2, 3]) (y := []) (d_call (3, b4, [1, 2, 3]) ⟨ok4, l3⟩ (a_cons (d_var rfl tb) (a_cons (dR (r := [1, 2, 3]) (a_cons d_int (a_cons d_int (a_cons d_int a_nil))) (by decide)) a_nil))) (dB d_int (dRs (cs := []) a_nil (by decide))))) (by rw [c1, c3]; simp)) fun H4 s4 => ?_
      have ok1 : BunOk 1 [] := ⟨by decide, by decide, by decide +kernel, by unfold Up; decide +kernel, by decide⟩
      have ok2 : BunOk 1 [[]] := ⟨by decide, by decide, by decide +kernel, by unfold Up; decide +kernel, by decide⟩
      refine s_ret (EvD.is (e := .bool true) (d_and (d_eqBun (n := 1) (m := 1) (x := putM [] [1]) (y := [[1]]) (d_call (1, [], [1]) ⟨ok1, by decide +kernel, .inr (by decide)⟩ (a_cons (dB d_int (dRs (cs := []) a_nil (by decide))) (a_cons (dR (r := [1]) (a_cons d_int a_nil) (by decide)) a_nil))) (dB d_int (dRs (cs := [[1]]) (a_cons (dR (r := [1]) (a_cons d_int a_nil) (by decide)) a_nil) (by decide)))) fun _ =>
        d_eqBun (n := 1) (m := 1) (x := ([[]] : List Row).eraseIdx (0 : Int).toNat) (y := []) (d_call (1, [[]], 0) ⟨ok2, by decide, by decide⟩ (a_cons (dB d_int (dRs (cs := [[]]) (a_cons dE a_nil) (by decide))) (a_cons d_int a_nil))) (dB d_int (dRs (cs := []) a_nil (by decide)))) (congrArg PyData.bool (by decide +kernel))) fun y H5 s5 ty => ?_
      rw [tp_bl ty]
      exact q H5
end
end Xh

namespace Xh
open PySem PySem.Spec PyProof.Rows L2 Evl
set_option maxHeartbeats 0 in
theorem all_mk {P : Program} {w : World} {K : PySem.W.Frag} {h : Heap} {mg : Str → Option Value} {fa : Addr} (X : K.In h) (G : h.Ns mainGlobals mg) (hfa : mg "law" = some (.ref fa))
    {t1 : Tok} {t2 : Tok}
    {f0 : Addr} {od0 an0 : Option Addr} {sl0 : Array (Option Value)} {oc0 kV0 dc0 pm0 cd0 ct0 : Value}
    (a0 : PySem.W.nsIn K mainGlobals "is_integer" = some (some (.ref f0))) (l0 : K.lookup f0 = some ⟨oc0, od0, .func (PySem.W.fnOf "is_integer" "is_integer" (defArgs sis_integer) (defBody sis_integer) (defScope sis_integer) .none kV0 dc0 pm0 an0 cd0 ct0), sl0⟩) (c0 : PySem.W.codeIn K cd0 "is_integer" = true) (k0 : PySem.W.keepIn K (.ref f0) = true)
    {f1 : Addr} {od1 an1 : Option Addr} {sl1 : Array (Option Value)} {oc1 kV1 dc1 pm1 cd1 ct1 : Value}
    (a1 : PySem.W.nsIn K mainGlobals "is_names" = some (some (.ref f1))) (l1 : K.lookup f1 = some ⟨oc1, od1, .func (PySem.W.fnOf "is_names" "is_names" (defArgs sis_names) (defBody sis_names) (defScope sis_names) .none kV1 dc1 pm1 an1 cd1 ct1), sl1⟩) (c1 : PySem.W.codeIn K cd1 "is_names" = true) (k1 : PySem.W.keepIn K (.ref f1) = true)
    {f2 : Addr} {od2 an2 : Option Addr} {sl2 : Array (Option Value)} {oc2 kV2 dc2 pm2 cd2 ct2 : Value}
    (a2 : PySem.W.nsIn K mainGlobals "is_literal" = some (some (.ref f2))) (l2 : K.lookup f2 = some ⟨oc2, od2, .func (PySem.W.fnOf "is_literal" "is_literal" (defArgs sis_literal) (defBody sis_literal) (defScope sis_literal) .none kV2 dc2 pm2 an2 cd2 ct2), sl2⟩) (c2 : PySem.W.codeIn K cd2 "is_literal" = true) (k2 : PySem.W.keepIn K (.ref f2) = true)
    {f3 : Addr} {od3 an3 : Option Addr} {sl3 : Array (Option Value)} {oc3 kV3 dc3 pm3 cd3 ct3 : Value}
    (a3 : PySem.W.nsIn K mainGlobals "is_literal_row" = some (some (.ref f3))) (l3 : K.lookup f3 = some ⟨oc3, od3, .func (PySem.W.fnOf "is_literal_row" "is_literal_row" (defArgs sis_literal_row) (defBody sis_literal_row) (defScope sis_literal_row) .none kV3 dc3 pm3 an3 cd3 ct3), sl3⟩) (c3 : PySem.W.codeIn K cd3 "is_literal_row" = true) (k3 : PySem.W.keepIn K (.ref f3) = true)
    {f4 : Addr} {od4 an4 : Option Addr} {sl4 : Array (Option Value)} {oc4 kV4 dc4 pm4 cd4 ct4 : Value}
    (a4 : PySem.W.nsIn K mainGlobals "is_lot" = some (some (.ref f4))) (l4 : K.lookup f4 = some ⟨oc4, od4, .func (PySem.W.fnOf "is_lot" "is_lot" (defArgs sis_lot) (defBody sis_lot) (defScope sis_lot) .none kV4 dc4 pm4 an4 cd4 ct4), sl4⟩) (c4 : PySem.W.codeIn K cd4 "is_lot" = true) (k4 : PySem.W.keepIn K (.ref f4) = true)
    {f5 : Addr} {od5 an5 : Option Addr} {sl5 : Array (Option Value)} {oc5 kV5 dc5 pm5 cd5 ct5 : Value}
    (a5 : PySem.W.nsIn K mainGlobals "is_index" = some (some (.ref f5))) (l5 : K.lookup f5 = some ⟨oc5, od5, .func (PySem.W.fnOf "is_index" "is_index" (defArgs sis_index) (defBody sis_index) (defScope sis_index) .none kV5 dc5 pm5 an5 cd5 ct5), sl5⟩) (c5 : PySem.W.codeIn K cd5 "is_index" = true) (k5 : PySem.W.keepIn K (.ref f5) = true)
    {f6 : Addr} {od6 an6 : Option Addr} {sl6 : Array (Option Value)} {oc6 kV6 dc6 pm6 cd6 ct6 : Value}
    (a6 : PySem.W.nsIn K mainGlobals "is_pair" = some (some (.ref f6))) (l6 : K.lookup f6 = some ⟨oc6, od6, .func (PySem.W.fnOf "is_pair" "is_pair" (defArgs sis_pair) (defBody sis_pair) (defScope sis_pair) .none kV6 dc6 pm6 an6 cd6 ct6), sl6⟩) (c6 : PySem.W.codeIn K cd6 "is_pair" = true) (k6 : PySem.W.keepIn K (.ref f6) = true)
    {f7 : Addr} {od7 an7 : Option Addr} {sl7 : Array (Option Value)} {oc7 kV7 dc7 pm7 cd7 ct7 : Value}
    (a7 : PySem.W.nsIn K mainGlobals "gathered" = some (some (.ref f7))) (l7 : K.lookup f7 = some ⟨oc7, od7, .func (PySem.W.fnOf "gathered" "gathered" (defArgs sgathered) (defBody sgathered) (defScope sgathered) .none kV7 dc7 pm7 an7 cd7 ct7), sl7⟩) (c7 : PySem.W.codeIn K cd7 "gathered" = true) (k7 : PySem.W.keepIn K (.ref f7) = true)
    {f8 : Addr} {od8 an8 : Option Addr} {sl8 : Array (Option Value)} {oc8 kV8 dc8 pm8 cd8 ct8 : Value}
    (a8 : PySem.W.nsIn K mainGlobals "_first_wrong" = some (some (.ref f8))) (l8 : K.lookup f8 = some ⟨oc8, od8, .func (PySem.W.fnOf "_first_wrong" "_first_wrong" (defArgs s_first_wrong) (defBody s_first_wrong) (defScope s_first_wrong) .none kV8 dc8 pm8 an8 cd8 ct8), sl8⟩) (c8 : PySem.W.codeIn K cd8 "_first_wrong" = true) (k8 : PySem.W.keepIn K (.ref f8) = true)
    {f9 : Addr} {od9 an9 : Option Addr} {sl9 : Array (Option Value)} {oc9 kV9 dc9 pm9 cd9 ct9 : Value}
    (a9 : PySem.W.nsIn K mainGlobals "need_bundle" = some (some (.ref f9))) (l9 : K.lookup f9 = some ⟨oc9, od9, .func (PySem.W.fnOf "need_bundle" "need_bundle" (defArgs sneed_bundle) (defBody sneed_bundle) (defScope sneed_bundle) .none kV9 dc9 pm9 an9 cd9 ct9), sl9⟩) (c9 : PySem.W.codeIn K cd9 "need_bundle" = true) (k9 : PySem.W.keepIn K (.ref f9) = true)
    {f10 : Addr} {od10 an10 : Option Addr} {sl10 : Array (Option Value)} {oc10 kV10 dc10 pm10 cd10 ct10 : Value}
    (a10 : PySem.W.nsIn K mainGlobals "need_clause" = some (some (.ref f10))) (l10 : K.lookup f10 = some ⟨oc10, od10, .func (PySem.W.fnOf "need_clause" "need_clause" (defArgs sneed_clause) (defBody sneed_clause) (defScope sneed_clause) .none kV10 dc10 pm10 an10 cd10 ct10), sl10⟩) (c10 : PySem.W.codeIn K cd10 "need_clause" = true) (k10 : PySem.W.keepIn K (.ref f10) = true)
    {f11 : Addr} {od11 an11 : Option Addr} {sl11 : Array (Option Value)} {oc11 kV11 dc11 pm11 cd11 ct11 : Value}
    (a11 : PySem.W.nsIn K mainGlobals "need_lot" = some (some (.ref f11))) (l11 : K.lookup f11 = some ⟨oc11, od11, .func (PySem.W.fnOf "need_lot" "need_lot" (defArgs sneed_lot) (defBody sneed_lot) (defScope sneed_lot) .none kV11 dc11 pm11 an11 cd11 ct11), sl11⟩) (c11 : PySem.W.codeIn K cd11 "need_lot" = true) (k11 : PySem.W.keepIn K (.ref f11) = true)
    {f12 : Addr} {od12 an12 : Option Addr} {sl12 : Array (Option Value)} {oc12 kV12 dc12 pm12 cd12 ct12 : Value}
    (a12 : PySem.W.nsIn K mainGlobals "need_number" = some (some (.ref f12))) (l12 : K.lookup f12 = some ⟨oc12, od12, .func (PySem.W.fnOf "need_number" "need_number" (defArgs sneed_number) (defBody sneed_number) (defScope sneed_number) .none kV12 dc12 pm12 an12 cd12 ct12), sl12⟩) (c12 : PySem.W.codeIn K cd12 "need_number" = true) (k12 : PySem.W.keepIn K (.ref f12) = true)
    {f13 : Addr} {od13 an13 : Option Addr} {sl13 : Array (Option Value)} {oc13 kV13 dc13 pm13 cd13 ct13 : Value}
    (a13 : PySem.W.nsIn K mainGlobals "without_names" = some (some (.ref f13))) (l13 : K.lookup f13 = some ⟨oc13, od13, .func (PySem.W.fnOf "without_names" "without_names" (defArgs swithout_names) (defBody swithout_names) (defScope swithout_names) .none kV13 dc13 pm13 an13 cd13 ct13), sl13⟩) (c13 : PySem.W.codeIn K cd13 "without_names" = true) (k13 : PySem.W.keepIn K (.ref f13) = true)
    {f14 : Addr} {od14 an14 : Option Addr} {sl14 : Array (Option Value)} {oc14 kV14 dc14 pm14 cd14 ct14 : Value}
    (a14 : PySem.W.nsIn K mainGlobals "crossed" = some (some (.ref f14))) (l14 : K.lookup f14 = some ⟨oc14, od14, .func (PySem.W.fnOf "crossed" "crossed" (defArgs scrossed) (defBody scrossed) (defScope scrossed) .none kV14 dc14 pm14 an14 cd14 ct14), sl14⟩) (c14 : PySem.W.codeIn K cd14 "crossed" = true) (k14 : PySem.W.keepIn K (.ref f14) = true)
    {f15 : Addr} {od15 an15 : Option Addr} {sl15 : Array (Option Value)} {oc15 kV15 dc15 pm15 cd15 ct15 : Value}
    (a15 : PySem.W.nsIn K mainGlobals "without" = some (some (.ref f15))) (l15 : K.lookup f15 = some ⟨oc15, od15, .func (PySem.W.fnOf "without" "without" (defArgs swithout) (defBody swithout) (defScope swithout) .none kV15 dc15 pm15 an15 cd15 ct15), sl15⟩) (c15 : PySem.W.codeIn K cd15 "without" = true) (k15 : PySem.W.keepIn K (.ref f15) = true)
    {f16 : Addr} {od16 an16 : Option Addr} {sl16 : Array (Option Value)} {oc16 kV16 dc16 pm16 cd16 ct16 : Value}
    (a16 : PySem.W.nsIn K mainGlobals "put_to" = some (some (.ref f16))) (l16 : K.lookup f16 = some ⟨oc16, od16, .func (PySem.W.fnOf "put_to" "put_to" (defArgs sput_to) (defBody sput_to) (defScope sput_to) .none kV16 dc16 pm16 an16 cd16 ct16), sl16⟩) (c16 : PySem.W.codeIn K cd16 "put_to" = true) (k16 : PySem.W.keepIn K (.ref f16) = true)
    {f17 : Addr} {od17 an17 : Option Addr} {sl17 : Array (Option Value)} {oc17 kV17 dc17 pm17 cd17 ct17 : Value}
    (a17 : PySem.W.nsIn K mainGlobals "_law_mixed" = some (some (.ref f17))) (l17 : K.lookup f17 = some ⟨oc17, od17, .func (PySem.W.fnOf "_law_mixed" "_law_mixed" (defArgs s_law_mixed) (defBody s_law_mixed) (defScope s_law_mixed) .none kV17 dc17 pm17 an17 cd17 ct17), sl17⟩) (c17 : PySem.W.codeIn K cd17 "_law_mixed" = true) (k17 : PySem.W.keepIn K (.ref f17) = true)
    {f18 : Addr} {od18 an18 : Option Addr} {sl18 : Array (Option Value)} {oc18 kV18 dc18 pm18 cd18 ct18 : Value}
    (a18 : PySem.W.nsIn K mainGlobals "_law_begin" = some (some (.ref f18))) (l18 : K.lookup f18 = some ⟨oc18, od18, .func (PySem.W.fnOf "_law_begin" "_law_begin" (defArgs s_law_begin) (defBody s_law_begin) (defScope s_law_begin) .none kV18 dc18 pm18 an18 cd18 ct18), sl18⟩) (c18 : PySem.W.codeIn K cd18 "_law_begin" = true) (k18 : PySem.W.keepIn K (.ref f18) = true)
    {f19 : Addr} {od19 an19 : Option Addr} {sl19 : Array (Option Value)} {oc19 kV19 dc19 pm19 cd19 ct19 : Value}
    (a19 : PySem.W.nsIn K mainGlobals "_law_draw" = some (some (.ref f19))) (l19 : K.lookup f19 = some ⟨oc19, od19, .func (PySem.W.fnOf "_law_draw" "_law_draw" (defArgs s_law_draw) (defBody s_law_draw) (defScope s_law_draw) .none kV19 dc19 pm19 an19 cd19 ct19), sl19⟩) (c19 : PySem.W.codeIn K cd19 "_law_draw" = true) (k19 : PySem.W.keepIn K (.ref f19) = true)
    {f20 : Addr} {od20 an20 : Option Addr} {sl20 : Array (Option Value)} {oc20 kV20 dc20 pm20 cd20 ct20 : Value}
    (a20 : PySem.W.nsIn K mainGlobals "_law_crossed" = some (some (.ref f20))) (l20 : K.lookup f20 = some ⟨oc20, od20, .func (PySem.W.fnOf "_law_crossed" "_law_crossed" (defArgs s_law_crossed) (defBody s_law_crossed) (defScope s_law_crossed) .none kV20 dc20 pm20 an20 cd20 ct20), sl20⟩) (c20 : PySem.W.codeIn K cd20 "_law_crossed" = true) (k20 : PySem.W.keepIn K (.ref f20) = true)
    {f21 : Addr} {od21 an21 : Option Addr} {sl21 : Array (Option Value)} {oc21 kV21 dc21 pm21 cd21 ct21 : Value}
    (a21 : PySem.W.nsIn K mainGlobals "_law_clause" = some (some (.ref f21))) (l21 : K.lookup f21 = some ⟨oc21, od21, .func (PySem.W.fnOf "_law_clause" "_law_clause" (defArgs s_law_clause) (defBody s_law_clause) (defScope s_law_clause) .none kV21 dc21 pm21 an21 cd21 ct21), sl21⟩) (c21 : PySem.W.codeIn K cd21 "_law_clause" = true) (k21 : PySem.W.keepIn K (.ref f21) = true)
    {f22 : Addr} {od22 an22 : Option Addr} {sl22 : Array (Option Value)} {oc22 kV22 dc22 pm22 cd22 ct22 : Value}
    (a22 : PySem.W.nsIn K mainGlobals "_law_bundle" = some (some (.ref f22))) (l22 : K.lookup f22 = some ⟨oc22, od22, .func (PySem.W.fnOf "_law_bundle" "_law_bundle" (defArgs s_law_bundle) (defBody s_law_bundle) (defScope s_law_bundle) .none kV22 dc22 pm22 an22 cd22 ct22), sl22⟩) (c22 : PySem.W.codeIn K cd22 "_law_bundle" = true) (k22 : PySem.W.keepIn K (.ref f22) = true)
    {f23 : Addr} {od23 an23 : Option Addr} {sl23 : Array (Option Value)} {oc23 kV23 dc23 pm23 cd23 ct23 : Value}
    (a23 : PySem.W.nsIn K mainGlobals "_law_bundle_right" = some (some (.ref f23))) (l23 : K.lookup f23 = some ⟨oc23, od23, .func (PySem.W.fnOf "_law_bundle_right" "_law_bundle_right" (defArgs s_law_bundle_right) (defBody s_law_bundle_right) (defScope s_law_bundle_right) .none kV23 dc23 pm23 an23 cd23 ct23), sl23⟩) (c23 : PySem.W.codeIn K cd23 "_law_bundle_right" = true) (k23 : PySem.W.keepIn K (.ref f23) = true)
    {f24 : Addr} {od24 an24 : Option Addr} {sl24 : Array (Option Value)} {oc24 kV24 dc24 pm24 cd24 ct24 : Value}
    (a24 : PySem.W.nsIn K mainGlobals "law" = some (some (.ref f24))) (l24 : K.lookup f24 = some ⟨oc24, od24, .func (PySem.W.fnOf "law" "law" (defArgs slaw) (defBody slaw) (defScope slaw) .none kV24 dc24 pm24 an24 cd24 ct24), sl24⟩) (c24 : PySem.W.codeIn K cd24 "law" = true) (k24 : PySem.W.keepIn K (.ref f24) = true)
    (z_isinstance : PySem.W.nsIn K mainGlobals "isinstance" = some none)
    (z_len : PySem.W.nsIn K mainGlobals "len" = some none)
    (z_range : PySem.W.nsIn K mainGlobals "range" = some none)
    (z_sorted : PySem.W.nsIn K mainGlobals "sorted" = some none)
    (z_tuple : PySem.W.nsIn K mainGlobals "tuple" = some none)
    (z_list : PySem.W.nsIn K mainGlobals "list" = some none)
    (z_set : PySem.W.nsIn K mainGlobals "set" = some none)
    (z_dict : PySem.W.nsIn K mainGlobals "dict" = some none)
    (z_int : PySem.W.nsIn K mainGlobals "int" = some none)
    (z_bool : PySem.W.nsIn K mainGlobals "bool" = some none)
    (z_abs : PySem.W.nsIn K mainGlobals "abs" = some none)
    (z_min : PySem.W.nsIn K mainGlobals "min" = some none)
    (z_max : PySem.W.nsIn K mainGlobals "max" = some none)
    (z_all : PySem.W.nsIn K mainGlobals "all" = some none)
    (z_enumerate : PySem.W.nsIn K mainGlobals "enumerate" = some none)
    (v_MOST_NAMES : PySem.W.nsIn K mainGlobals "MOST_NAMES" = some (some (.int 7 t1)))
    (v_MOST_CLAUSES : PySem.W.nsIn K mainGlobals "MOST_CLAUSES" = some (some (.int 16 t2)))
    : ∃ fd : FuncData, (∀ (s : Shared) (v : Value), BindsTo s fd ⟨[v], []⟩ [("script", v)]) ∧ ∀ base : Heap, K.In base → base.Ns mainGlobals mg → FnOk P w K mg base (L2.CX P w) 9 fa fd ["script"] (splaw K) := by
  have e := hfa.symm.trans (PySem.W.mg_of X G a24)
  cases e
  have B : Blt mg := { isinstance := PySem.W.mg_none_of X G z_isinstance, len := PySem.W.mg_none_of X G z_len, range := PySem.W.mg_none_of X G z_range, sorted := PySem.W.mg_none_of X G z_sorted, tuple := PySem.W.mg_none_of X G z_tuple, list := PySem.W.mg_none_of X G z_list, set := PySem.W.mg_none_of X G z_set, dict := PySem.W.mg_none_of X G z_dict, int := PySem.W.mg_none_of X G z_int, bool := PySem.W.mg_none_of X G z_bool, abs := PySem.W.mg_none_of X G z_abs, min := PySem.W.mg_none_of X G z_min, max := PySem.W.mg_none_of X G z_max, all := PySem.W.mg_none_of X G z_all, enumerate := PySem.W.mg_none_of X G z_enumerate }
  have C : Cst mg t1 t2 := { MOST_NAMES := PySem.W.mg_of X G v_MOST_NAMES, MOST_CLAUSES := PySem.W.mg_of X G v_MOST_CLAUSES }
  have F0 := fun_mk (st := sis_integer) l0 c0 k0
  have D0 : Def K mg "is_integer" sis_integer ["thing"] := ⟨⟨_, _, F0, PySem.W.mg_of X G a0, F0.binds (ps := ["thing"]) fun _ _ _ _ _ _ us hl => match us, hl with | [_], _ => rfl⟩⟩
  have F1 := fun_mk (st := sis_names) l1 c1 k1
  have D1 : Def K mg "is_names" sis_names ["thing"] := ⟨⟨_, _, F1, PySem.W.mg_of X G a1, F1.binds (ps := ["thing"]) fun _ _ _ _ _ _ us hl => match us, hl with | [_], _ => rfl⟩⟩
  have F2 := fun_mk (st := sis_literal) l2 c2 k2
  have D2 : Def K mg "is_literal" sis_literal ["names", "thing"] := ⟨⟨_, _, F2, PySem.W.mg_of X G a2, F2.binds (ps := ["names", "thing"]) fun _ _ _ _ _ _ us hl => match us, hl with | [_, _], _ => rfl⟩⟩
  have F3 := fun_mk (st := sis_literal_row) l3 c3 k3
  have D3 : Def K mg "is_literal_row" sis_literal_row ["names", "thing"] := ⟨⟨_, _, F3, PySem.W.mg_of X G a3, F3.binds (ps := ["names", "thing"]) fun _ _ _ _ _ _ us hl => match us, hl with | [_, _], _ => rfl⟩⟩
  have F4 := fun_mk (st := sis_lot) l4 c4 k4
  have D4 : Def K mg "is_lot" sis_lot ["names", "thing"] := ⟨⟨_, _, F4, PySem.W.mg_of X G a4, F4.binds (ps := ["names", "thing"]) fun _ _ _ _ _ _ us hl => match us, hl with | [_, _], _ => rfl⟩⟩
  have F5 := fun_mk (st := sis_index) l5 c5 k5
  have D5 : Def K mg "is_index" sis_index ["many", "thing"] := ⟨⟨_, _, F5, PySem.W.mg_of X G a5, F5.binds (ps := ["many", "thing"]) fun _ _ _ _ _ _ us hl => match us, hl with | [_, _], _ => rfl⟩⟩
  have F6 := fun_mk (st := sis_pair) l6 c6 k6
  have D6 : Def K mg "is_pair" sis_pair ["thing"] := ⟨⟨_, _, F6, PySem.W.mg_of X G a6, F6.binds (ps := ["thing"]) fun _ _ _ _ _ _ us hl => match us, hl with | [_], _ => rfl⟩⟩
  have F7 := fun_mk (st := sgathered) l7 c7 k7
  have D7 : Def K mg "gathered" sgathered ["names", "clauses"] := ⟨⟨_, _, F7, PySem.W.mg_of X G a7, F7.binds (ps := ["names", "clauses"]) fun _ _ _ _ _ _ us hl => match us, hl with | [_, _], _ => rfl⟩⟩
  have F8 := fun_mk (st := s_first_wrong) l8 c8 k8
  have D8 : Def K mg "_first_wrong" s_first_wrong ["names", "clauses"] := ⟨⟨_, _, F8, PySem.W.mg_of X G a8, F8.binds (ps := ["names", "clauses"]) fun _ _ _ _ _ _ us hl => match us, hl with | [_, _], _ => rfl⟩⟩
  have F9 := fun_mk (st := sneed_bundle) l9 c9 k9
  have D9 : Def K mg "need_bundle" sneed_bundle ["thing"] := ⟨⟨_, _, F9, PySem.W.mg_of X G a9, F9.binds (ps := ["thing"]) fun _ _ _ _ _ _ us hl => match us, hl with | [_], _ => rfl⟩⟩
  have F10 := fun_mk (st := sneed_clause) l10 c10 k10
  have D10 : Def K mg "need_clause" sneed_clause ["bundle", "thing"] := ⟨⟨_, _, F10, PySem.W.mg_of X G a10, F10.binds (ps := ["bundle", "thing"]) fun _ _ _ _ _ _ us hl => match us, hl with | [_, _], _ => rfl⟩⟩
  have F11 := fun_mk (st := sneed_lot) l11 c11 k11
  have D11 : Def K mg "need_lot" sneed_lot ["bundle", "thing"] := ⟨⟨_, _, F11, PySem.W.mg_of X G a11, F11.binds (ps := ["bundle", "thing"]) fun _ _ _ _ _ _ us hl => match us, hl with | [_, _], _ => rfl⟩⟩
  have F12 := fun_mk (st := sneed_number) l12 c12 k12
  have D12 : Def K mg "need_number" sneed_number ["bundle", "thing"] := ⟨⟨_, _, F12, PySem.W.mg_of X G a12, F12.binds (ps := ["bundle", "thing"]) fun _ _ _ _ _ _ us hl => match us, hl with | [_, _], _ => rfl⟩⟩
  have F13 := fun_mk (st := swithout_names) l13 c13 k13
  have D13 : Def K mg "without_names" swithout_names ["clause", "lot"] := ⟨⟨_, _, F13, PySem.W.mg_of X G a13, F13.binds (ps := ["clause", "lot"]) fun _ _ _ _ _ _ us hl => match us, hl with | [_, _], _ => rfl⟩⟩
  have F14 := fun_mk (st := scrossed) l14 c14 k14
  have D14 : Def K mg "crossed" scrossed ["bundle", "lot"] := ⟨⟨_, _, F14, PySem.W.mg_of X G a14, F14.binds (ps := ["bundle", "lot"]) fun _ _ _ _ _ _ us hl => match us, hl with | [_, _], _ => rfl⟩⟩
  have F15 := fun_mk (st := swithout) l15 c15 k15
  have D15 : Def K mg "without" swithout ["bundle", "number"] := ⟨⟨_, _, F15, PySem.W.mg_of X G a15, F15.binds (ps := ["bundle", "number"]) fun _ _ _ _ _ _ us hl => match us, hl with | [_, _], _ => rfl⟩⟩
  have F16 := fun_mk (st := sput_to) l16 c16 k16
  have D16 : Def K mg "put_to" sput_to ["bundle", "clause"] := ⟨⟨_, _, F16, PySem.W.mg_of X G a16, F16.binds (ps := ["bundle", "clause"]) fun _ _ _ _ _ _ us hl => match us, hl with | [_, _], _ => rfl⟩⟩
  have F17 := fun_mk (st := s_law_mixed) l17 c17 k17
  have D17 : Def K mg "_law_mixed" s_law_mixed ["cell", "k"] := ⟨⟨_, _, F17, PySem.W.mg_of X G a17, F17.binds (ps := ["cell", "k"]) fun _ _ _ _ _ _ us hl => match us, hl with | [_, _], _ => rfl⟩⟩
  have F18 := fun_mk (st := s_law_begin) l18 c18 k18
  have D18 : Def K mg "_law_begin" s_law_begin ["script"] := ⟨⟨_, _, F18, PySem.W.mg_of X G a18, F18.binds (ps := ["script"]) fun _ _ _ _ _ _ us hl => match us, hl with | [_], _ => rfl⟩⟩
  have F19 := fun_mk (st := s_law_draw) l19 c19 k19
  have D19 : Def K mg "_law_draw" s_law_draw ["state", "many"] := ⟨⟨_, _, F19, PySem.W.mg_of X G a19, F19.binds (ps := ["state", "many"]) fun _ _ _ _ _ _ us hl => match us, hl with | [_, _], _ => rfl⟩⟩
  have F20 := fun_mk (st := s_law_crossed) l20 c20 k20
  have D20 : Def K mg "_law_crossed" s_law_crossed ["bundle", "lot"] := ⟨⟨_, _, F20, PySem.W.mg_of X G a20, F20.binds (ps := ["bundle", "lot"]) fun _ _ _ _ _ _ us hl => match us, hl with | [_, _], _ => rfl⟩⟩
  have F21 := fun_mk (st := s_law_clause) l21 c21 k21
  have D21 : Def K mg "_law_clause" s_law_clause ["state", "names"] := ⟨⟨_, _, F21, PySem.W.mg_of X G a21, F21.binds (ps := ["state", "names"]) fun _ _ _ _ _ _ us hl => match us, hl with | [_, _], _ => rfl⟩⟩
  have F22 := fun_mk (st := s_law_bundle) l22 c22 k22
  have D22 : Def K mg "_law_bundle" s_law_bundle ["state", "most", "many"] := ⟨⟨_, _, F22, PySem.W.mg_of X G a22, F22.binds (ps := ["state", "most", "many"]) fun _ _ _ _ _ _ us hl => match us, hl with | [_, _, _], _ => rfl⟩⟩
  have F23 := fun_mk (st := s_law_bundle_right) l23 c23 k23
  have D23 : Def K mg "_law_bundle_right" s_law_bundle_right ["state", "bundle"] := ⟨⟨_, _, F23, PySem.W.mg_of X G a23, F23.binds (ps := ["state", "bundle"]) fun _ _ _ _ _ _ us hl => match us, hl with | [_, _], _ => rfl⟩⟩
  have F24 := fun_mk (st := slaw) l24 c24 k24
  refine ⟨PySem.W.fnOf "law" "law" (defArgs slaw) (defBody slaw) (defScope slaw) .none kV24 dc24 pm24 an24 cd24 ct24, fun s v => .of_eq rfl, fun base _ _ => ?_⟩
  have G0 := okis_integer (P := P) (w := w) (base := base) D0 B
  have G1 := okis_names (P := P) (w := w) (base := base) D1 B C G0
  have G2 := okis_literal (P := P) (w := w) (base := base) D2 B G0
  have G3 := okis_literal_row (P := P) (w := w) (base := base) D3 B G2
  have G4 := okis_lot (P := P) (w := w) (base := base) D4 B G3
  have G5 := okis_index (P := P) (w := w) (base := base) D5 B G0
  have G6 := okis_pair (P := P) (w := w) (base := base) D6 B
  have G7 := okgathered (P := P) (w := w) (base := base) D7 B
  have G8 := ok_first_wrong (P := P) (w := w) (base := base) D8 B G3
  have G9 := okneed_bundle (P := P) (w := w) (base := base) D9 B C G6 G1 G8
  have G10 := okneed_clause (P := P) (w := w) (base := base) D10 B G9 G3
  have G11 := okneed_lot (P := P) (w := w) (base := base) D11 B G9 G4
  have G12 := okneed_number (P := P) (w := w) (base := base) D12 B G9 G5
  have G13 := okwithout_names (P := P) (w := w) (base := base) D13 B
  have G14 := okcrossed (P := P) (w := w) (base := base) D14 B G11 G13 G7
  have G15 := okwithout (P := P) (w := w) (base := base) D15 B G12
  have G16 := okput_to (P := P) (w := w) (base := base) D16 B C G10 G7
  have G17 := ok_law_mixed (P := P) (w := w) (base := base) D17 B
  have G18 := ok_law_begin (P := P) (w := w) (base := base) D18 B
  have G19 := ok_law_draw (P := P) (w := w) (base := base) D19 B G17
  have G20 := ok_law_crossed (P := P) (w := w) (base := base) D20 B
  have G21 := ok_law_clause (P := P) (w := w) (base := base) D21 B G19
  have G22 := ok_law_bundle (P := P) (w := w) (base := base) D22 B G19 G21
  have G23 := ok_law_bundle_right (P := P) (w := w) (base := base) D23 B G9 G14 G10 G16 G15 G20 G19 G21
  exact oklaw F24 B G18 G22 G23 G14 G16 G15
end Xh
open PySem PySem.W PyProof.Rows
set_option maxHeartbeats 0 in
theorem PySem.Challenge.cw_idleclauses_k01_whole_bundles_holds : PySem.Challenge.rw_idleclauses_k01_whole_bundles.Holds := by
  w_on; o_law; k_head; (case hw => w_witness2)
  k_fill
  refine L2.walk_of (l := PySem.Challenge.rw_idleclauses_k01_whole_bundles) (n := 63) (k := 9) (x := "script") (CX := fun w => L2.CX PySem.Challenge.rw_idleclauses_k01_whole_bundles.prog w) (sp := fun w => Xh.splaw _) rfl (by decide) rfl ⟨rfl, by decide, by decide⟩ (fun w h Y => PySem.W.kIn_of Y) ?F (fun _ _ a ns hl _ hS => ⟨a, ns, rfl, hS, hl, fun _ => rfl⟩) (fun _ _ _ _ _ h => by obtain ⟨_, _, _, _, _, _, _, _, _, _, _, _, h⟩ := h; exact h)
  case F =>
    intro w mg fa h KX G hmg
    refine' Xh.all_mk (P := PySem.Challenge.rw_idleclauses_k01_whole_bundles.prog) KX G hmg ?a0 ?l0 ?c0 ?k0 ?a1 ?l1 ?c1 ?k1 ?a2 ?l2 ?c2 ?k2 ?a3 ?l3 ?c3 ?k3 ?a4 ?l4 ?c4 ?k4 ?a5 ?l5 ?c5 ?k5 ?a6 ?l6 ?c6 ?k6 ?a7 ?l7 ?c7 ?k7 ?a8 ?l8 ?c8 ?k8 ?a9 ?l9 ?c9 ?k9 ?a10 ?l10 ?c10 ?k10 ?a11 ?l11 ?c11 ?k11 ?a12 ?l12 ?c12 ?k12 ?a13 ?l13 ?c13 ?k13 ?a14 ?l14 ?c14 ?k14 ?a15 ?l15 ?c15 ?k15 ?a16 ?l16 ?c16 ?k16 ?a17 ?l17 ?c17 ?k17 ?a18 ?l18 ?c18 ?k18 ?a19 ?l19 ?c19 ?k19 ?a20 ?l20 ?c20 ?k20 ?a21 ?l21 ?c21 ?k21 ?a22 ?l22 ?c22 ?k22 ?a23 ?l23 ?c23 ?k23 ?a24 ?l24 ?c24 ?k24 ?z_isinstance ?z_len ?z_range ?z_sorted ?z_tuple ?z_list ?z_set ?z_dict ?z_int ?z_bool ?z_abs ?z_min ?z_max ?z_all ?z_enumerate ?v_MOST_NAMES ?v_MOST_CLAUSES
    (case a0 => k_is); (case l0 => k_is); (case c0 => k_is); (case k0 => k_is)
    (case a1 => k_is); (case l1 => k_is); (case c1 => k_is); (case k1 => k_is)
    (case a2 => k_is); (case l2 => k_is); (case c2 => k_is); (case k2 => k_is)
    (case a3 => k_is); (case l3 => k_is); (case c3 => k_is); (case k3 => k_is)
    (case a4 => k_is); (case l4 => k_is); (case c4 => k_is); (case k4 => k_is)
    (case a5 => k_is); (case l5 => k_is); (case c5 => k_is); (case k5 => k_is)
    (case a6 => k_is); (case l6 => k_is); (case c6 => k_is); (case k6 => k_is)
    (case a7 => k_is); (case l7 => k_is); (case c7 => k_is); (case k7 => k_is)
    (case a8 => k_is); (case l8 => k_is); (case c8 => k_is); (case k8 => k_is)
    (case a9 => k_is); (case l9 => k_is); (case c9 => k_is); (case k9 => k_is)
    (case a10 => k_is); (case l10 => k_is); (case c10 => k_is); (case k10 => k_is)
    (case a11 => k_is); (case l11 => k_is); (case c11 => k_is); (case k11 => k_is)
    (case a12 => k_is); (case l12 => k_is); (case c12 => k_is); (case k12 => k_is)
    (case a13 => k_is); (case l13 => k_is); (case c13 => k_is); (case k13 => k_is)
    (case a14 => k_is); (case l14 => k_is); (case c14 => k_is); (case k14 => k_is)
    (case a15 => k_is); (case l15 => k_is); (case c15 => k_is); (case k15 => k_is)
    (case a16 => k_is); (case l16 => k_is); (case c16 => k_is); (case k16 => k_is)
    (case a17 => k_is); (case l17 => k_is); (case c17 => k_is); (case k17 => k_is)
    (case a18 => k_is); (case l18 => k_is); (case c18 => k_is); (case k18 => k_is)
    (case a19 => k_is); (case l19 => k_is); (case c19 => k_is); (case k19 => k_is)
    (case a20 => k_is); (case l20 => k_is); (case c20 => k_is); (case k20 => k_is)
    (case a21 => k_is); (case l21 => k_is); (case c21 => k_is); (case k21 => k_is)
    (case a22 => k_is); (case l22 => k_is); (case c22 => k_is); (case k22 => k_is)
    (case a23 => k_is); (case l23 => k_is); (case c23 => k_is); (case k23 => k_is)
    (case a24 => k_is); (case l24 => k_is); (case c24 => k_is); (case k24 => k_is)
    (case z_isinstance => k_is); (case z_len => k_is); (case z_range => k_is); (case z_sorted => k_is)
    (case z_tuple => k_is); (case z_list => k_is); (case z_set => k_is); (case z_dict => k_is)
    (case z_int => k_is); (case z_bool => k_is); (case z_abs => k_is); (case z_min => k_is)
    (case z_max => k_is); (case z_all => k_is); (case z_enumerate => k_is); (case v_MOST_NAMES => k_is)
    (case v_MOST_CLAUSES => k_is)

