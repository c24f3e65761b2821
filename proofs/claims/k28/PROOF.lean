import PyProof.Rows.All
import Wide.All
import OpenK.AllK
import Wide.FinOn
import HandS.TupSets
import KE.KDictKeyed
import HandS.ForMost
import HandS.ForExc
import HandS.Flow
import HandS.Style
import HandS.Star
import HandS.IsInst
import HandS.Lambda
import HandS.Conv
import HandS.ExcInit
import HandS.ExcOwn
import KE.SortData
import HandS.TupAny
import HandS.TupMul
import HandS.Deep
import HandS.RaiseMore
import HandS.TupLe
import KE.KDictCopyH
import KE.GoesEnum
import HandS.Walk
import HandS.Strs
import HandS.SetFor
import HandS.TryMany
import HandS.ExcField
import HandS.HeadHook4
import HandS.Head0
import HandS.Head1
import HandS.Head2
import HandS.EndTab
import HandS.HeadWalk
import KE.KExcInit
import HandS.ExcValue
import HandS.TryOnly
import KE.KExcIs
import KE.KTryMore
import KE.KDflt
import KE.KStateDown
import PySem.Challenge.RW_frontjobs_k28_whole_mends
set_option Elab.async false
set_option linter.all false
set_option maxRecDepth 100000
set_option maxHeartbeats 4000000
namespace PD
open PySem L2
section
variable {P : Program} {w : World}
/-- no tuple of atoms and of such tuples is of a class of the program -/
def NoCls (P : Program) (w : World) (n : Nat) (s : Shared) (v : Value) : Prop := ∀ (A : Around) (E : Value → Shared → Prop) (Q : Bool → Shared → Prop), Q false s → wpAny (model P w) A (ofAClassStatement n v) Q E s
def ByVal (P : Program) (w : World) (n : Nat) (s : Shared) (v : Value) : Prop := ∀ (A : Around) (E : Value → Shared → Prop) (Q : Bool → Shared → Prop), Q true s → wpAny (model P w) A (hashByValue n v) Q E s
theorem noCls_atom {n : Nat} {s : Shared} {v : Value} (h : ∀ a, v = .ref a → False) : NoCls P w n s v := fun A E Q q => by
  rw [ofAClassStatement.eq_3 n v h]
  exact wpAny_pure q
theorem noCls_tup {n : Nat} {s : Shared} {a : Addr} {o : Obj} {vs : Array Value} {m : Nat} (ho : s.heap.get? a = some o) (hc : o.cls = .type "tuple") (hd : o.data = .seq vs m) (hv : ∀ v ∈ vs.toList, NoCls P w n s v) : NoCls P w (n + 1) s (.ref a) := fun A E Q q => by
  have hT : s.TypeIs (.ref a) "tuple" := ⟨o, ho, hc⟩
  rw [ofAClassStatement.eq_2]
  refine wpAny_bind (wpAny_typeOf hT ?_)
  have e : (("tuple" : String) == "tuple") = true := by decide
  simp only [e, if_true]
  refine wpAny_bind (wpAny_pure ?_)
  simp only [Bool.not_true, Bool.false_eq_true, if_false]
  refine wpAny_bind (wpAny_seqItems ho hd ?_)
  refine wpAny_bind ?_
  rw [← Array.forIn_toList]
  refine wpAny_forIn_list _ (fun rest (r : Option Bool × Unit) s' => r.fst = none ∧ s' = s ∧ ∀ v ∈ rest, NoCls P w n s v) _ ?_ ?_ _ _ ⟨rfl, rfl, hv⟩
  · rintro v rest ⟨r, u⟩ s' ⟨e, rfl, h⟩
    refine wpAny_bind (h v List.mem_cons_self A E _ ?_)
    simp only [Bool.false_eq_true, if_false]
    exact wpAny_pure ⟨rfl, rfl, fun y hy => h y (List.mem_cons_of_mem _ hy)⟩
  · rintro ⟨r, u⟩ s' ⟨e, rfl, _⟩
    have e : r = none := e
    subst e
    exact wpAny_pure q
mutual
theorem noCls_key : ∀ (k : NestedKey) (v : Value) (n : Nat) (s : Shared), NestedIs s.heap k v → k.depth ≤ n → NoCls P w n s v
  | .none, _, n, s, .none, _ => noCls_atom fun _ e => nomatch e
  | .num _, _, n, s, .bool _, _ => noCls_atom fun _ e => nomatch e
  | .num _, _, n, s, .int _ _, _ => noCls_atom fun _ e => nomatch e
  | .text _, _, n, s, .text _ _, _ => noCls_atom fun _ e => nomatch e
  | .tup ks, _, 0, s, .tup ho hc hd ha, h => absurd h (by simp [NestedKey.depth])
  | .tup ks, _, n + 1, s, .tup ho hc hd ha, h => noCls_tup ho hc hd (noCls_keys ks _ n s ha (by simp only [NestedKey.depth] at h; omega))
theorem noCls_keys : ∀ (ks : List NestedKey) (vs : List Value) (n : Nat) (s : Shared), NestedAll s.heap ks vs → NestedKey.depthAll ks ≤ n → ∀ v ∈ vs, NoCls P w n s v
  | _, _, n, s, .nil, _ => fun v hv => nomatch hv
  | _, _, n, s, .cons (k := k) (ks := ks) h t, hn => fun v hv => by
    simp only [NestedKey.depthAll] at hn
    rcases List.mem_cons.mp hv with rfl | hv
    · exact noCls_key k _ n s h (by omega)
    · exact noCls_keys ks _ n s t (by omega) v hv
end
/-- whether the hash is by value is told, whatever is told -/
def Told (P : Program) (w : World) (n : Nat) (s : Shared) (v : Value) : Prop := ∀ (A : Around) (E : Value → Shared → Prop) (Q : Bool → Shared → Prop), (∀ b, Q b s) → wpAny (model P w) A (hashByValue n v) Q E s
theorem told_tup {n : Nat} {s : Shared} {a : Addr} {o : Obj} {vs : Array Value} {m : Nat} (ho : s.heap.get? a = some o) (hc : o.cls = .type "tuple") (hd : o.data = .seq vs m) (hv : ∀ v ∈ vs.toList, Told P w n s v) : Told P w (n + 1) s (.ref a) := fun A E Q q => by
  have hT : s.TypeIs (.ref a) "tuple" := ⟨o, ho, hc⟩
  rw [hashByValue.eq_12]
  refine wpAny_bind (wpAny_specialOf hT F.slot_tuple_hash.lookup ?_)
  refine wpAny_bind (wpAny_seqItems ho hd ?_)
  refine wpAny_bind ?_
  rw [← Array.forIn_toList]
  refine wpAny_forIn_list _ (fun rest (r : Option Bool × Unit) s' => s' = s ∧ ∀ v ∈ rest, Told P w n s v) _ ?_ ?_ _ _ ⟨rfl, hv⟩
  · rintro v rest ⟨r, u⟩ s' ⟨rfl, h⟩
    refine wpAny_bind (h v List.mem_cons_self A E _ fun b => ?_)
    cases b with
    | true =>
      simp only [Bool.not_true, Bool.false_eq_true, if_false]
      exact wpAny_pure ⟨rfl, fun y hy => h y (List.mem_cons_of_mem _ hy)⟩
    | false =>
      simp only [Bool.not_false, if_true]
      exact wpAny_pure (wpAny_pure (q false))
  · rintro ⟨r, u⟩ s' ⟨rfl, _⟩
    cases r with
    | none => exact wpAny_pure (q true)
    | some b => exact wpAny_pure (q b)
mutual
theorem told_key : ∀ (k : NestedKey) (v : Value) (n : Nat) (s : Shared), NestedIs s.heap k v → k.depth ≤ n → Told P w n s v
  | .none, _, n, s, .none, _ => fun A E Q q => by rw [hashByValue.eq_1]; exact wpAny_pure (q _)
  | .num _, _, n, s, .bool _, _ => fun A E Q q => by rw [hashByValue.eq_2]; exact wpAny_pure (q _)
  | .num _, _, n, s, .int _ _, _ => fun A E Q q => by rw [hashByValue.eq_3]; exact wpAny_pure (q _)
  | .text _, _, n, s, .text _ _, _ => fun A E Q q => by rw [hashByValue.eq_5]; exact wpAny_pure (q _)
  | .tup ks, _, 0, s, .tup ho hc hd ha, h => absurd h (by simp [NestedKey.depth])
  | .tup ks, _, n + 1, s, .tup ho hc hd ha, h => told_tup ho hc hd (told_keys ks _ n s ha (by simp only [NestedKey.depth] at h; omega))
theorem told_keys : ∀ (ks : List NestedKey) (vs : List Value) (n : Nat) (s : Shared), NestedAll s.heap ks vs → NestedKey.depthAll ks ≤ n → ∀ v ∈ vs, Told P w n s v
  | _, _, n, s, .nil, _ => fun v hv => nomatch hv
  | _, _, n, s, .cons (k := k) (ks := ks) h t, hn => fun v hv => by
    simp only [NestedKey.depthAll] at hn
    rcases List.mem_cons.mp hv with rfl | hv
    · exact told_key k _ n s h (by omega)
    · exact told_keys ks _ n s t (by omega) v hv
end
/-- the tuple at a is the key k -/
def IsN (h : Heap) (k : NestedKey) (a : Addr) : Prop := NestedIs h k (.ref a) ∧ k.depth ≤ 8
theorem IsN.stay {h h' : Heap} {k : NestedKey} {a : Addr} (hk : IsN h k a) (st : ∀ b o vs n, h.get? b = some o → o.data = .seq vs n → h'.get? b = some o) : IsN h' k a := ⟨NestedIs.at st k _ hk.1, hk.2⟩
theorem IsN.same {h h' : Heap} {k : NestedKey} {a b : Addr} {o : Obj} {es : Array (Int × Value)} {ep : Nat} {t : SetTable} (hk : IsN h k b) (ho : h.get? a = some o) (hd : o.data = .set es ep t) (hs : Heap.SameBut a h h') : IsN h' k b := hk.stay fun b u vs n hb hu => by
  by_cases e : b = a
  · subst e
    rw [ho] at hb
    cases hb
    rw [hd] at hu
    cases hu
  · rw [hs.2 b e, hb]
/-- no look at the stored keys is seen -/
theorem seen_key {A : Around} {E : Value → Shared → Prop} {s : Shared} {k : NestedKey} {b : Addr} {Q : Bool → Shared → Prop} (hk : IsN s.heap k b) {ys : List Value} (hy : ∀ y ∈ ys, ∃ k' c, y = .ref c ∧ IsN s.heap k' c) (q : Q false s) : wpAny (model P w) A (searchCouldBeSeen (.ref b) ys) Q E s := by
  unfold searchCouldBeSeen
  refine wpAny_bind ?_
  refine wpAny_forIn_list _ (fun rest (r : Option Bool × Unit) s' => r.fst = none ∧ s' = s ∧ ∀ y ∈ rest, ∃ k' c, y = Value.ref c ∧ IsN s.heap k' c) _ ?_ ?_ _ _ ⟨rfl, rfl, hy⟩
  · rintro v rest ⟨r, u⟩ s' ⟨e, rfl, h⟩
    obtain ⟨k', c, rfl, hc⟩ := h v List.mem_cons_self
    have tl : ∀ y ∈ rest, ∃ k' c, y = Value.ref c ∧ IsN s'.heap k' c := fun y hy => h y (List.mem_cons_of_mem _ hy)
    by_cases g : (b == c || carriedByValue (.ref b) && carriedByValue (.ref c)) = true
    · exact wp_if_pos g (wpAny_pure ⟨rfl, rfl, tl⟩)
    · refine wp_if_neg g ?_
      refine wpAny_bind (quiet_key k _ 8 s' hk.1 hk.2 A E _ ?_)
      simp only [Bool.not_true, Bool.false_eq_true, if_false]
      refine wpAny_bind (quiet_key k' _ 8 s' hc.1 hc.2 A E _ ?_)
      simp only [Bool.not_true, Bool.false_eq_true, if_false]
      refine wpAny_bind (noCls_key k _ 8 s' hk.1 hk.2 A E _ ?_)
      simp only [Bool.false_eq_true, if_false]
      refine wpAny_bind (noCls_key k' _ 8 s' hc.1 hc.2 A E _ ?_)
      simp only [Bool.false_eq_true, if_false]
      exact wpAny_pure ⟨rfl, rfl, tl⟩
  · rintro ⟨r, u⟩ s' ⟨e, rfl, _⟩
    have e : r = none := e
    subst e
    exact wpAny_pure q
abbrev nh (w : World) (k : NestedKey) : Int := NestedKey.hash w k
abbrev rowsN (w : World) (L : List (Addr × NestedKey)) : List (Int × Value) := L.map fun p => (nh w p.2, Value.ref p.1)
/-- the set at a holds the keys of L, each by its tuple -/
structure SetNR (w : World) (h : Heap) (a : Addr) (L : List (Addr × NestedKey)) (es : Array (Int × Value)) (ep : Nat) (t : SetTable) : Prop where
  ob : ∃ o, h.get? a = some o ∧ o.ExactSet ∧ o.data = .set es ep t
  rows : es.toList = rowsN w L
  tab : TabOk t (L.map fun p => nh w p.2)
  nd : (L.map (·.2)).Nodup
  tup : ∀ p ∈ L, IsN h p.2 p.1
  led : w.params.followText "set-order" = true ∨ t.led = true
  room : L.length * 5 < t.mask * 3
  few : L.length < 64
theorem SetNR.size {h : Heap} {a : Addr} {L : List (Addr × NestedKey)} {es : Array (Int × Value)} {ep : Nat} {t : SetTable} (R : SetNR w h a L es ep t) : es.size = L.length := by
  have := congrArg List.length R.rows
  rw [List.length_map] at this
  simpa using this
theorem SetNR.fits {h : Heap} {a : Addr} {L : List (Addr × NestedKey)} {es : Array (Int × Value)} {ep : Nat} {t : SetTable} (R : SetNR w h a L es ep t) : t.fits es.size = true := by
  have h1 := R.tab.sz
  have h2 := R.room
  rw [List.length_map] at h1
  unfold SetTable.fits SetTable.fill
  rw [R.size, R.tab.dm, h1]
  simp
  omega
theorem nth_dm (m i b : Nat) : ∀ n, (nth m (runAt m i b) n).dummy = none
  | 0 => rfl
  | n + 1 => by
    rw [nth_succ]
    unfold adv
    split
    · exact nth_dm m i b n
    · exact nth_dm m i b n
theorem srch_from {A : Around} {E : Value → Shared → Prop} {s : Shared} {a : Addr} {L : List (Addr × NestedKey)} {es : Array (Int × Value)} {ep : Nat} {t : SetTable} (R : SetNR w s.heap a L es ep t)
    {x : Addr} {k : NestedKey} (hx : IsN s.heap k x) (hu : A.units + 8 < cLine) {K : Nat} (hKf : K < 10 * SetTable.turns t.mask) (hK : way t.mask (nh w k) K ∉ t.place.toList) (hb : ∀ c < K, way t.mask (nh w k) c ∈ t.place.toList)
    {Q : SetFound → Shared → Prop} (hin : k ∈ L.map (·.2) → Q (.there none) s) (hout : k ∉ L.map (·.2) → Q (.free (way t.mask (nh w k) K) false) s) : ∀ (f c : Nat) (stand : Option SetTable.Probe),
    stand.getD (t.probeStart (nh w k)) = nth t.mask (runAt t.mask (SetTable.bits (nh w k) % (t.mask + 1)) (SetTable.bits (nh w k))) c → c ≤ K → K - c < f →
    (∀ (i : Nat) (p : Addr × NestedKey), L[i]? = some p → p.2 = k → ∃ c', c ≤ c' ∧ c' < K ∧ t.place.toList[i]? = some (way t.mask (nh w k) c')) →
    wpAny (model P w) A (setSearchFrom a (.ref x) (nh w k) true f stand) Q E s
  | 0, _, _, _, _, hf, _ => absurd hf (Nat.not_lt_zero _)
  | f + 1, c, stand, hs, hc, hf, hfind => by
    obtain ⟨o, ho, hex, hd⟩ := R.ob
    have gw : t.gaveWay = false := by
      unfold SetTable.gaveWay
      rw [mask_odd R.tab.mok]
      rfl
    have rows : ∀ {i : Nat} {p : Addr × NestedKey}, L[i]? = some p → es[i]? = some (nh w p.2, Value.ref p.1) := fun {i p} hp => by
      rw [← Array.getElem?_toList, R.rows, List.getElem?_map, hp]
      rfl
    have shift : ∀ j, nth t.mask (nth t.mask (runAt t.mask (SetTable.bits (nh w k) % (t.mask + 1)) (SetTable.bits (nh w k))) c) j = nth t.mask (runAt t.mask (SetTable.bits (nh w k) % (t.mask + 1)) (SetTable.bits (nh w k))) (c + j) := fun j => (nth_add _ _ _ _).symm
    rw [setSearchFrom_succ]
    refine wpAny_bind (wpAny_setState_of ho hd R.fits ?_)
    dsimp only
    refine wp_if_neg (by rw [gw]; decide) ?_
    rw [hs]
    rcases go_spec t R.tab.ris R.tab.dm (fun i => (Option.map (fun x => x.1) es[i]?).getD 0) (nh w k) (10 * SetTable.turns t.mask) (K - c) _ (nth_dm t.mask _ _ c) (by omega)
      (fun j hj => by rw [shift]; exact hb _ (by omega)) (by rw [shift, show c + (K - c) = K by omega]; exact hK) with ⟨j, i, hj, hi, hh, hbe, e⟩ | ⟨hno, e⟩
    · have e : t.probe (fun i => (Option.map (fun x => x.1) es[i]?).getD 0) (nh w k) (nth t.mask (runAt t.mask (SetTable.bits (nh w k) % (t.mask + 1)) (SetTable.bits (nh w k))) c) = _ := e
      rw [e]
      dsimp only
      have hil : i < L.length := by
        have h1 := (List.getElem?_eq_some_iff.mp hi).1
        have h2 := R.tab.sz
        rw [List.length_map] at h2
        rw [Array.length_toList, h2] at h1
        exact h1
      obtain ⟨p, hp⟩ : ∃ p, L[i]? = some p := ⟨_, List.getElem?_eq_getElem hil⟩
      have hm := List.mem_of_getElem? hp
      have hp2 := R.tup p hm
      have rest : wpAny (model P w) A (searchRest a (.ref x) (nh w k) true f es t (nth t.mask (nth t.mask (runAt t.mask (SetTable.bits (nh w k) % (t.mask + 1)) (SetTable.bits (nh w k))) c) j).j i (nth t.mask (nth t.mask (runAt t.mask (SetTable.bits (nh w k) % (t.mask + 1)) (SetTable.bits (nh w k))) c) (j + 1))) Q E s := by
        unfold searchRest
        rw [rows hp]
        dsimp only
        refine wpAny_bind (wpAny_holding ((nestedKind P w).eqBool hu hp2 hx ?_))
        refine wpAny_bind (wpAny_setState_of ho hd R.fits ?_)
        dsimp only
        by_cases pe : p.2 = k
        · exact wp_if_pos (by simp [pe]) (wpAny_pure (hin (List.mem_map.mpr ⟨p, hm, pe⟩)))
        · refine wp_if_neg (by simp [pe]) ?_
          rw [sameMem]
          dsimp only
          rw [if_pos rfl, slot_live R.tab.ris hi]
          dsimp only
          rw [rows hp]
          dsimp only
          have sm : isSame (.ref p.1) (.ref p.1) = pure true := by simp [isSame]
          rw [sm]
          refine wpAny_bind (wpAny_pure ?_)
          refine wpAny_bind (wpAny_pure ?_)
          simp only [if_true]
          refine wp_if_neg (by simp [pe]) ?_
          refine srch_from R hx hu hKf hK hb hin hout f (c + j + 1) _ ?_ (by omega) (by omega) ?_
          · rw [shift]
            rfl
          · intro i' p' hp' hk'
            obtain ⟨c', h1, h2, h3⟩ := hfind i' p' hp' hk'
            refine ⟨c', ?_, h2, h3⟩
            have ne : nh w p'.2 = nh w k := by rw [hk']
            by_cases lt : c' - c < j
            · refine absurd ?_ (hbe (c' - c) i' lt (by rw [shift, show c + (c' - c) = c' by omega]; exact h3))
              rw [rows hp']
              exact ne
            · by_cases eq : c' = c + j
              · exfalso
                subst eq
                have h4 := hi
                rw [shift] at h4
                have hii : i' = i := by
                  have r := R.tab.ris
                  have hl' := (List.getElem?_eq_some_iff.mp h3).1
                  have hl := (List.getElem?_eq_some_iff.mp h4).1
                  have v' := (List.getElem?_eq_some_iff.mp h3).2
                  have v := (List.getElem?_eq_some_iff.mp h4).2
                  have vv := v'.trans v.symm
                  rcases Nat.lt_trichotomy i' i with l | l | l
                  · have lt := List.pairwise_iff_getElem.mp r i' i hl' hl l
                    rw [vv] at lt
                    exact absurd lt (Nat.lt_irrefl _)
                  · exact l
                  · have lt := List.pairwise_iff_getElem.mp r i i' hl hl' l
                    rw [vv] at lt
                    exact absurd lt (Nat.lt_irrefl _)
                subst hii
                rw [hp] at hp'
                cases hp'
                exact pe hk'
              · omega
      by_cases ld : (!t.led) = true
      · refine wp_if_pos ld ?_
        refine wpAny_bind (seen_key hx ?_ ?_)
        · intro y hy
          obtain ⟨q, hq, rfl⟩ := List.mem_map.mp hy
          rw [Array.mem_toList_iff, Array.mem_filter] at hq
          have hq := hq.1
          rw [← Array.mem_toList_iff, R.rows] at hq
          obtain ⟨z, hz, rfl⟩ := List.mem_map.mp hq
          exact ⟨z.2, z.1, rfl, R.tup z hz⟩
        · exact wp_if_neg (by decide) rest
      · exact wp_if_neg ld rest
    · have e : t.probe (fun i => (Option.map (fun x => x.1) es[i]?).getD 0) (nh w k) (nth t.mask (runAt t.mask (SetTable.bits (nh w k) % (t.mask + 1)) (SetTable.bits (nh w k))) c) = _ := e
      rw [e]
      dsimp only
      rw [shift, show c + (K - c) = K by omega]
      refine wpAny_pure (hout fun hm => ?_)
      obtain ⟨p, hp, rfl⟩ := List.mem_map.mp hm
      obtain ⟨i, hi⟩ := List.getElem?_of_mem hp
      obtain ⟨c', h1, h2, h3⟩ := hfind i p hi rfl
      refine hno (c' - c) i (by omega) (by rw [shift, show c + (c' - c) = c' by omega]; exact h3) ?_
      rw [rows hi]
      rfl
theorem srch {A : Around} {E : Value → Shared → Prop} {s : Shared} {a : Addr} {L : List (Addr × NestedKey)} {es : Array (Int × Value)} {ep : Nat} {t : SetTable} (R : SetNR w s.heap a L es ep t)
    {x : Addr} {k : NestedKey} (hx : IsN s.heap k x) (hu : A.units + 8 < cLine) {Q : SetFound → Shared → Prop} (hin : k ∈ L.map (·.2) → Q (.there none) s)
    (hout : ∀ K, k ∉ L.map (·.2) → way t.mask (nh w k) K ∉ t.place.toList → (∀ c < K, way t.mask (nh w k) c ∈ t.place.toList) → Q (.free (way t.mask (nh w k) K) false) s) : wpAny (model P w) A (setSearch a (.ref x) (nh w k) true) Q E s := by
  have hr := R.room
  obtain ⟨K, hKf, hK, hb⟩ := TabOk.first R.tab (by rw [List.length_map]; omega) (nh w k)
  have big : K < 100000 := by
    have : t.mask ≤ 127 := by rcases R.tab.mok with e | e | e <;> omega
    unfold SetTable.turns at hKf
    omega
  refine srch_from R hx hu hKf hK hb hin (fun hn => hout K hn hK hb) 100000 0 none rfl (Nat.zero_le _) (by omega) ?_
  intro i p hp hk
  have hi : (L.map fun p => nh w p.2)[i]? = some (nh w k) := by rw [List.getElem?_map, hp, ← hk]; rfl
  have hil : i < t.place.toList.length := by
    have h1 := (List.getElem?_eq_some_iff.mp hp).1
    have h2 := R.tab.sz
    rw [List.length_map] at h2
    rw [Array.length_toList, h2]
    exact h1
  obtain ⟨c, hc, e⟩ := TabOk.before R.tab hK hi (List.getElem?_eq_getElem hil)
  exact ⟨c, Nat.zero_le _, hc, by rw [e]; exact List.getElem?_eq_getElem hil⟩
theorem fm_range {α : Type} : ∀ L : List α, (List.range L.length).filterMap (fun i => L[i]?) = L
  | [] => rfl
  | x :: xs => by
    rw [List.length_cons, List.range_succ_eq_map, List.filterMap_cons, List.filterMap_map]
    simp only [List.getElem?_cons_zero, Function.comp_def, List.getElem?_cons_succ]
    rw [fm_range xs]
theorem ordN {L : List (Addr × NestedKey)} {es : Array (Int × Value)} (order : Array Nat) (h : es.toList = rowsN w L) (hp : order.toList.Perm (List.range L.length)) :
    ∃ L2, (order.filterMap fun i => es[i]?).toList = rowsN w L2 ∧ L2.Perm L ∧ L2.map (fun p => nh w p.2) = order.toList.map fun i => (es.map (·.1)).getD i 0 := by
  have row : ∀ i : Nat, es[i]? = (L[i]?).map fun p => (nh w p.2, Value.ref p.1) := fun i => by rw [← Array.getElem?_toList, h, List.getElem?_map]
  have lt : ∀ i ∈ order.toList, i < L.length := fun i hi => List.mem_range.mp (hp.mem_iff.mp hi)
  refine ⟨order.toList.filterMap fun i => L[i]?, ?_, ?_, ?_⟩
  · rw [Array.toList_filterMap]
    unfold rowsN
    rw [List.map_filterMap]
    congr 1
    funext i
    exact row i
  · have := hp.filterMap fun i => L[i]?
    rwa [fm_range] at this
  · generalize order.toList = l at lt
    induction l with
    | nil => rfl
    | cons i l ih =>
      have hi := lt i List.mem_cons_self
      rw [List.filterMap_cons, List.getElem?_eq_getElem hi, List.map_cons, List.map_cons, ih fun j hj => lt j (List.mem_cons_of_mem _ hj)]
      congr 1
      have := row i
      rw [List.getElem?_eq_getElem hi] at this
      rw [Array.getD_eq_getD_getElem?, Array.getElem?_map, this]
      rfl
theorem relayN {A : Around} {E : Value → Shared → Prop} {s : Shared} {a : Addr} {L : List (Addr × NestedKey)} {es : Array (Int × Value)} {ep : Nat} {t : SetTable} {o : Obj} (ho : s.heap.get? a = some o) (hex : o.ExactSet) (hd : o.data = .set es ep t)
    (rows : es.toList = rowsN w L) (ft : t.fits es.size = true) (nd : (L.map (·.2)).Nodup) (tup : ∀ p ∈ L, IsN s.heap p.2 p.1) (led : w.params.followText "set-order" = true ∨ t.led = true) (few : L.length < 64)
    {wanted m : Nat} (hm : SetTable.sizeAbove wanted - 1 = m) (ok : MaskOk m) (big : SetTable.sizeAbove wanted ≤ 128) (room : L.length * 5 < m * 3) {Q : Unit → Shared → Prop}
    (hQ : ∀ h' L' es' ep' t', Heap.SameBut a s.heap h' → SetNR w h' a L' es' ep' t' → L'.Perm L → Q () { s with heap := h' }) : wpAny (model P w) A (setRelay a wanted) Q E s := by
  have sz : es.size = L.length := by
    have := congrArg List.length rows
    rw [List.length_map] at this
    simpa using this
  rw [setRelay_eq]
  refine wpAny_bind (wpAny_setState_of ho hd ft ?_)
  dsimp only
  refine wp_if_neg (by rw [sizeLine_eq]; omega) ?_
  obtain ⟨t', order, e1, op, tb, em, el, ep', ed⟩ := relaid_ok t (hs := es.map fun x => x.1) hm ok (by rw [Array.size_map]; omega)
  rw [Array.size_map, sz] at op
  obtain ⟨L2, r2, p2, h2⟩ := ordN (w := w) order rows op
  have s2 : (order.filterMap fun i => es[i]?).size = es.size := by
    have := congrArg List.length r2
    rw [List.length_map, p2.length_eq] at this
    rw [sz, ← this, Array.length_toList]
  rw [e1]
  dsimp only
  refine wpAny_bind ?_
  refine wp_if_neg (by rw [s2]; simp) ?_
  refine wpAny_pure ?_
  dsimp only
  refine wpAny_storeSet_of ho hd ?_ (by rw [s2, sz, sizeLine_eq]; omega)
  have sb := Heap.SameBut.update s.heap a (Obj.putSet (order.filterMap fun i => es[i]?) t')
  refine hQ _ L2 _ _ t' sb ⟨⟨_, store_at ho hd, ⟨hex.1, hex.2.1, hex.2.2⟩, rfl⟩, r2, by rw [h2]; exact tb, (p2.map _).nodup_iff.mpr nd, fun p hp => (tup p (p2.mem_iff.mp hp)).same ho hd sb, by rw [el]; exact led, by rw [p2.length_eq, em]; exact room, by rw [p2.length_eq]; exact few⟩ p2
theorem tab_plain {t : SetTable} {hs : List Int} (h : TabOk t hs) (b : Bool) : TabOk { t with plain := b } hs := ⟨h.ris, h.dm, h.sz, h.mok, h.bd, h.reach⟩
theorem addN {A : Around} {E : Value → Shared → Prop} {s : Shared} {a : Addr} {L : List (Addr × NestedKey)} {es : Array (Int × Value)} {ep : Nat} {t : SetTable} (R : SetNR w s.heap a L es ep t)
    {x : Addr} {k : NestedKey} (hx : IsN s.heap k x) (hu : A.units + 8 < cLine) (few : L.length + 1 < 64) {Q : Bool → Shared → Prop}
    (hQ : ∀ b h' L' es' ep' t', Heap.SameBut a s.heap h' → SetNR w h' a L' es' ep' t' → (k ∈ L.map (·.2) → L' = L) → (k ∉ L.map (·.2) → L'.Perm ((x, k) :: L)) → Q b { s with heap := h' }) : wpAny (model P w) A (setAddHashed a (.ref x) (nh w k)) Q E s := by
  obtain ⟨o, ho, hex, hd⟩ := R.ob
  have sz := R.size
  have room := R.room
  unfold setAddHashed
  refine wpAny_holding ?_
  rw [show (100000 : Nat) = 99999 + 1 from rfl, setAddHashedIn_succ]
  refine wpAny_bind (wpAny_setState_of ho hd R.fits ?_)
  dsimp only
  refine wp_if_neg (by simp [byScan, Value.scannable]) ?_
  refine wpAny_bind (srch R hx hu (fun hm => ?_) fun K hm hK hb => ?_)
  · exact wpAny_pure (hQ false s.heap L es ep t (Heap.SameBut.refl a s.heap) R (fun _ => rfl) fun z => absurd hm z)
  · dsimp only
    refine wpAny_bind (wpAny_setState_of ho hd R.fits ?_)
    dsimp only
    obtain ⟨q1, q2, q3, q4, q5, q6, q7, q8, q9⟩ := TabOk.put R.tab hK hb
    generalize t.put (way t.mask (nh w k) K) = tp at *
    obtain ⟨t1, p⟩ := tp
    dsimp only at q1 q3 q4 q5 q6 q7 q8 q9 ⊢
    subst q1
    generalize SetTable.below t.place (way t.mask (nh w k) K) = p at *
    rw [List.length_map] at q9
    have rin : (SetTable.insertAt es p (nh w k, Value.ref x)).toList = rowsN w (L.take p ++ (x, k) :: L.drop p) := by
      rw [SetTable.toList_insertAt, R.rows]
      simp [rowsN, List.map_take, List.map_drop]
    have pm := put_perm L p (x, k)
    have len := pm.length_eq
    rw [List.length_cons] at len
    have s1 : (SetTable.insertAt es p (nh w k, Value.ref x)).size = L.length + 1 := by
      have := congrArg List.length rin
      rw [List.length_map, len] at this
      rw [← this, Array.length_toList]
    have hq3 : TabOk t1 ((L.take p ++ (x, k) :: L.drop p).map fun p => nh w p.2) := by
      have : (L.take p ++ (x, k) :: L.drop p).map (fun p => nh w p.2) = (L.map fun p => nh w p.2).take p ++ nh w k :: (L.map fun p => nh w p.2).drop p := by simp [List.map_take, List.map_drop]
      rw [this]
      exact q3
    have nd1 : ((L.take p ++ (x, k) :: L.drop p).map (·.2)).Nodup := (pm.map _).nodup_iff.mpr (by rw [List.map_cons]; exact List.nodup_cons.mpr ⟨hm, R.nd⟩)
    have fin : ∀ b : Bool, wpAny (model P w) A (do
        storeSet a (SetTable.insertAt es p (nh w k, Value.ref x)) (if b = true then t1 else { t1 with plain := false })
        if (!false && (if b = true then t1 else { t1 with plain := false } : SetTable).tooFull) = true then do
          setRelay a (SetTable.grown (es.size + 1))
          pure true
        else pure true) Q E s := fun b => by
      obtain ⟨t2, e2, tb, em, el, ef⟩ : ∃ t2, (if b = true then t1 else { t1 with plain := false }) = t2 ∧ TabOk t2 ((L.take p ++ (x, k) :: L.drop p).map fun p => nh w p.2) ∧ t2.mask = t.mask ∧ t2.led = t.led ∧ t2.fill = L.length + 1 := by
        cases b with
        | true => exact ⟨t1, rfl, hq3, q4, q5, q9⟩
        | false => exact ⟨_, rfl, tab_plain hq3 false, q4, q5, q9⟩
      rw [e2]
      have sb := Heap.SameBut.update s.heap a (Obj.putSet (SetTable.insertAt es p (nh w k, Value.ref x)) t2)
      have ho1 := store_at (es' := SetTable.insertAt es p (nh w k, Value.ref x)) (t' := t2) ho hd
      have tup1 : ∀ q ∈ L.take p ++ (x, k) :: L.drop p, IsN (s.heap.update a (Obj.putSet (SetTable.insertAt es p (nh w k, Value.ref x)) t2)) q.2 q.1 := fun q hq => by
        rcases List.mem_cons.mp (pm.mem_iff.mp hq) with rfl | hq
        · exact hx.same ho hd sb
        · exact (R.tup q hq).same ho hd sb
      have ld1 : w.params.followText "set-order" = true ∨ t2.led = true := by rw [el]; exact R.led
      refine wpAny_bind (wpAny_storeSet_of ho hd ?_ (by rw [s1, sizeLine_eq]; omega))
      have mk := R.tab.mok
      by_cases hf : t2.tooFull = true
      · refine wp_if_pos (by rw [hf]; rfl) ?_
        have hf' : (L.length + 1) * 5 ≥ t.mask * 3 := by
          unfold SetTable.tooFull at hf
          rw [ef, em] at hf
          simpa using hf
        have lm : L.length + 1 ≤ t.mask := by rcases mk with e | e | e <;> omega
        obtain ⟨m', hm', ok', big', room'⟩ : ∃ m', SetTable.sizeAbove (SetTable.grown (es.size + 1)) - 1 = m' ∧ MaskOk m' ∧ SetTable.sizeAbove (SetTable.grown (es.size + 1)) ≤ 128 ∧ (L.length + 1) * 5 < m' * 3 := by
          rw [sz]
          rcases mk with e | e | e
          · have : L.length + 1 = 5 := by omega
            rw [this, size_20]
            exact ⟨31, rfl, .inr (.inl rfl), by omega, by omega⟩
          · have : L.length + 1 = 19 := by omega
            rw [this, size_76]
            exact ⟨127, rfl, .inr (.inr rfl), by omega, by omega⟩
          · omega
        refine wpAny_bind (relayN (o := { cls := o.cls, dict := o.dict, data := .set (SetTable.insertAt es p (nh w k, Value.ref x)) (ep + 1) t2, slots := o.slots }) ho1 ⟨hex.1, hex.2.1, hex.2.2⟩ rfl rin ?_ nd1 tup1 ld1 (by rw [len]; omega) hm' ok' big' (by rw [len]; exact room') fun h' L' es' ep' t' sb' R' pm' => ?_)
        · have z := tb.sz
          rw [List.length_map, len] at z
          unfold SetTable.fits
          rw [s1, z, ef, em]
          simpa using lm
        · exact wpAny_pure (hQ true h' L' es' ep' t' (sb.trans sb') R' (fun z => absurd z hm) fun _ => pm'.trans pm)
      · refine wp_if_neg (by simp [hf]) ?_
        have hf' : (L.length + 1) * 5 < t.mask * 3 := by
          unfold SetTable.tooFull at hf
          rw [ef, em] at hf
          simpa using hf
        exact wpAny_pure (hQ true _ _ _ _ t2 sb ⟨⟨_, ho1, ⟨hex.1, hex.2.1, hex.2.2⟩, rfl⟩, rin, tb, nd1, tup1, ld1, by rw [len, em]; exact hf', by rw [len]; omega⟩ (fun z => absurd z hm) fun _ => pm)
    by_cases pl : t1.plain = true
    · exact wp_if_pos pl (wpAny_bind (told_key k _ 8 s hx.1 hx.2 A E _ fun b => fin b))
    · exact wp_if_neg pl (wpAny_bind (wpAny_pure (fin true)))
theorem setNR_new {h : Heap} {a : Addr} (e : h.get? a = some { cls := .type "set", data := .set #[] 0 (SetTable.fresh 0 0 !w.params.followText "set-order") }) : SetNR w h a [] #[] 0 (SetTable.fresh 0 0 !w.params.followText "set-order") := by
  have tb : TabOk (SetTable.fresh 0 0 !w.params.followText "set-order") [] := ⟨List.Pairwise.nil, rfl, rfl, .inl rfl, (fun x hx => nomatch hx), fun i h j hh => by simp at hh⟩
  have hm : (SetTable.fresh 0 0 !w.params.followText "set-order").mask = 7 := rfl
  refine ⟨⟨_, e, ⟨rfl, rfl, rfl⟩, rfl⟩, rfl, tb, List.nodup_nil, (fun p hp => nomatch hp), ?_, (by rw [hm]; decide), by decide⟩
  cases w.params.followText "set-order" <;> simp [SetTable.fresh]
end
end PD
set_option Elab.async false
set_option linter.all false
set_option maxRecDepth 100000
set_option autoImplicit false
namespace PD
open PySem PySem.Spec L2

/-! ### data, and how it lies in a heap -/
abbrev D := PyData
def keyD : Key → D
  | .inl i => .int i
  | .inr x => .str x
/-- what is read off the written part, and the world (its texts' hashes) -/
structure KW where
  k : PySem.W.Frag
  w : World
instance : Coe KW PySem.W.Frag := ⟨KW.k⟩
abbrev kx (X : Cx) : KW := ⟨X.K, X.w⟩
mutual
inductive Dr (K : KW) (H : Hp) : V → D → Prop
  | non : Dr K H .non .none
  | bl (b : Bool) : Dr K H (.bl b) (.bool b)
  | int (i : Int) : Dr K H (.int i) (.int i)
  | str (x : Str) : Dr K H (.str x) (.str x)
  | lst {a : Addr} {xs : List V} {ds : List D} : H a = some (.lst xs) → DrAll K H xs ds → Dr K H (.ref a) (.list ds)
  | tup {a : Addr} {xs : List V} {ds : List D} : SqT K H a xs → DrAll K H xs ds → Dr K H (.ref a) (.tuple ds)
  | dct {a : Addr} {o : Obj} {kvs : List (Key × V)} {ds : List D} : H a = some (.frz o (.dK kvs)) → DrAll K H (kvs.map (·.2)) ds → Dr K H (.ref a) (.dict ((kvs.map fun q => keyD q.1).zip ds))
inductive DrAll (K : KW) (H : Hp) : List V → List D → Prop
  | nil : DrAll K H [] []
  | cons {v : V} {vs : List V} {d : D} {ds : List D} : Dr K H v d → DrAll K H vs ds → DrAll K H (v :: vs) (d :: ds)
end
theorem sqT_same {K : PySem.W.Frag} {H H' : Hp} {a : Addr} {xs : List V} (e : Same H H') (h : SqT K H a xs) : SqT K H' a xs := by
  rcases h with (h | ⟨o, h⟩) | h
  · exact .inl (.inl (e _ _ h))
  · exact .inl (.inr ⟨o, e _ _ h⟩)
  · exact .inr h
mutual
theorem Dr.same {K : KW} {H H' : Hp} (e : Same H H') : ∀ {v : V} {d : D}, Dr K H v d → Dr K H' v d
  | _, _, .non => .non
  | _, _, .bl b => .bl b
  | _, _, .int i => .int i
  | _, _, .str x => .str x
  | _, _, .lst h hs => .lst (e _ _ h) (DrAll.same e hs)
  | _, _, .tup h hs => .tup (sqT_same e h) (DrAll.same e hs)
  | _, _, .dct h hs => .dct (e _ _ h) (DrAll.same e hs)
theorem DrAll.same {K : KW} {H H' : Hp} (e : Same H H') : ∀ {vs : List V} {ds : List D}, DrAll K H vs ds → DrAll K H' vs ds
  | _, _, .nil => .nil
  | _, _, .cons h hs => .cons (Dr.same e h) (DrAll.same e hs)
end
section
variable {K : KW} {H : Hp}
theorem DrAll.length : ∀ {vs : List V} {ds : List D}, DrAll K H vs ds → vs.length = ds.length
  | _, _, .nil => rfl
  | _, _, .cons _ hs => by simp [DrAll.length hs]
theorem DrAll.append : ∀ {vs ws : List V} {ds es : List D}, DrAll K H vs ds → DrAll K H ws es → DrAll K H (vs ++ ws) (ds ++ es)
  | _, _, _, _, .nil, q => q
  | _, _, _, _, .cons h hs, q => .cons h (DrAll.append hs q)
theorem DrAll.get : ∀ {vs : List V} {ds : List D} {i : Nat} {v : V}, DrAll K H vs ds → vs[i]? = some v → ∃ d, ds[i]? = some d ∧ Dr K H v d
  | _, _, _, _, .nil, e => by simp at e
  | _, _, 0, _, .cons h _, e => by simp at e; subst e; exact ⟨_, rfl, h⟩
  | _, _, i + 1, v, .cons _ hs, e => by
    obtain ⟨d, h1, h2⟩ := DrAll.get (i := i) (v := v) hs (by simpa using e)
    exact ⟨d, by simpa using h1, h2⟩
theorem DrAll.getD : ∀ {vs : List V} {ds : List D} {i : Nat} {d : D}, DrAll K H vs ds → ds[i]? = some d → ∃ v, vs[i]? = some v ∧ Dr K H v d
  | _, _, _, _, .nil, e => by simp at e
  | _, _, 0, _, .cons h _, e => by simp at e; subst e; exact ⟨_, rfl, h⟩
  | _, _, i + 1, d, .cons _ hs, e => by
    obtain ⟨v, h1, h2⟩ := DrAll.getD (i := i) (d := d) hs (by simpa using e)
    exact ⟨v, by simpa using h1, h2⟩
theorem DrAll.take : ∀ {vs : List V} {ds : List D} (n : Nat), DrAll K H vs ds → DrAll K H (vs.take n) (ds.take n)
  | _, _, 0, _ => .nil
  | _, _, _ + 1, .nil => .nil
  | _, _, n + 1, .cons r t => .cons r (DrAll.take n t)
theorem DrAll.drop : ∀ {vs : List V} {ds : List D} (n : Nat), DrAll K H vs ds → DrAll K H (vs.drop n) (ds.drop n)
  | _, _, 0, r => r
  | _, _, _ + 1, .nil => .nil
  | _, _, n + 1, .cons _ t => DrAll.drop n t
theorem DrAll.rep {vs : List V} {ds : List D} (h : DrAll K H vs ds) : ∀ k : Nat, DrAll K H (List.replicate k vs).flatten (List.replicate k ds).flatten
  | 0 => .nil
  | k + 1 => by
    rw [List.replicate_succ, List.replicate_succ, List.flatten_cons, List.flatten_cons]
    exact DrAll.append h (DrAll.rep h k)
theorem DrAll.reverse {vs : List V} {ds : List D} (h : DrAll K H vs ds) : DrAll K H vs.reverse ds.reverse := by
  induction ds generalizing vs with
  | nil => cases h; exact .nil
  | cons d ds ih =>
    cases h with
    | cons h1 h2 => rw [List.reverse_cons, List.reverse_cons]; exact DrAll.append (ih h2) (.cons h1 .nil)
end

/-! ### the state of the drawing -/
structure Gen where
  great : List Int
  seed : Int
  turns : Int
def GenP (p : Addr) (g : Gen) (H0 H : Hp) : Prop := ∃ gl : Addr, H p = some (.dK [(.inr "great", .ref gl), (.inr "seed", .int g.seed), (.inr "turns", .int g.turns)]) ∧ H0 gl = some (.lst (g.great.map V.int))
/-- the drawing's dict, if there is one -/
def GenAt (gm : Option Addr) (g : Gen) (H0 H : Hp) : Prop := ∀ p, gm = some p → GenP p g H0 H
def NoG (gm : Option Addr) (H0 : Hp) : Prop := ∀ p, gm = some p → H0 p = none

/-! ### results -/
inductive Rs (α : Type) where
  | ok (a : α) (g : Gen)
  | er (c : Str) (d : D) (g : Gen)
  | st
abbrev M (α : Type) := Gen → Rs α
def M.pu {α : Type} (a : α) : M α := fun g => .ok a g
def M.bd {α β : Type} (m : M α) (k : α → M β) : M β := fun g => match m g with
  | .ok a g' => k a g'
  | .er c d g' => .er c d g'
  | .st => .st
def M.stuck {α : Type} : M α := fun _ => .st
def M.raise {α : Type} (c : Str) (d : D) : M α := fun g => .er c d g
def M.ofO {α : Type} : Option α → M α
  | some a => .pu a
  | none => .stuck

/-! ### what an expression's value is -/
/-- an own collection -/
inductive Col where
  | set (ds : List D)
  | dct (kvs : List (D × D))
inductive Vl where
  | d (x : D)
  | gn
  | sc (ns : List Int)
  | bo (ds : List D)
  | co (c : Col)

/-- what stays through the whole law -/
structure Sig where
  K : KW
  gm : Option Addr
  T : List (Addr × Str)
  cl : Str → Addr
  at_ : Str → Str

/-- nothing is tracked there, or a table of code alone -/
def Fre (H : Hp) (a : Addr) : Prop := H a = none ∨ ∃ ps, H a = some (.tbl ps)
theorem Fre.ne {H : Hp} {a b : Addr} {o : HO} (h : Fre H a) (e : H b = some o) (n : ∀ ps, o ≠ .tbl ps) : b ≠ a := fun z => by
  rcases h with h | ⟨ps, h⟩
  · rw [z, h] at e; cases e
  · rw [z, h] at e; exact n ps (Option.some.inj e).symm
structure Stp (gm : Option Addr) (H0 H H0' H' : Hp) : Prop where
  s0 : Same H0 H0'
  fr : ∀ a o, H a = some o → gm ≠ some a → (∀ ps, o ≠ .tbl ps) → H' a = some o
  th : ∀ a, Fre H' a → Fre H a
  fresh : ∀ a, H0' a ≠ none → H0 a ≠ none ∨ Fre H a
  nt : ∀ a ps, H0' a = some (.tbl ps) → H0 a = some (.tbl ps)
theorem Stp.refl (gm : Option Addr) (H0 H : Hp) : Stp gm H0 H H0 H := ⟨Same.refl _, fun _ _ h _ _ => h, fun _ h => h, fun _ h => .inl h, fun _ _ h => h⟩
theorem Stp.trans {gm : Option Addr} {H0 H H1 H' H2 H'' : Hp} (a : Stp gm H0 H H1 H') (b : Stp gm H1 H' H2 H'') : Stp gm H0 H H2 H'' :=
  ⟨a.s0.trans b.s0, fun c o h n t => b.fr c o (a.fr c o h n t) n t, fun c h => a.th c (b.th c h),
    fun c h => by
      rcases b.fresh c h with q | q
      · exact a.fresh c q
      · exact .inr (a.th c q),
    fun c ps h => a.nt c ps (b.nt c ps h)⟩
/-- a new object at p, known as data from now on -/
theorem Stp.new {gm : Option Addr} {H0 H : Hp} {p : Addr} {o : HO} (sub : Same H0 H) (hp : H p = none) (ht : ∀ ps, o ≠ .tbl ps) : Stp gm H0 H (upd H0 p o) (upd H p o) := by
  have h0 : H0 p = none := sub.free hp
  refine ⟨fun b u e => ?_, fun a u e _ _ => ?_, fun a e => ?_, fun a e => ?_, fun a ps e => ?_⟩
  · rw [upd_ne (ne_of_none e h0)]; exact e
  · rw [upd_ne (ne_of_none e hp)]; exact e
  · by_cases z : a = p
    · subst z; exact .inl hp
    · unfold Fre at e ⊢
      rw [upd_ne z] at e; exact e
  · by_cases z : a = p
    · subst z; exact .inr (.inl hp)
    · rw [upd_ne z] at e; exact .inl e
  · by_cases z : a = p
    · subst z; rw [upd_same] at e; exact absurd (Option.some.inj e) (ht ps)
    · rw [upd_ne z] at e; exact e
theorem same_upd {H0 H : Hp} {p : Addr} {o : HO} (sub : Same H0 H) (hp : H p = none) : Same (upd H0 p o) (upd H p o) := fun b u e => by
  by_cases z : b = p
  · subst z; rw [upd_same] at e ⊢; exact e
  · rw [upd_ne z] at e ⊢; exact sub b u e

structure Aft (S : Sig) (g : Gen) (H0 H H0' H' : Hp) : Prop where
  stp : Stp S.gm H0 H H0' H'
  sub : Same H0' H'
  gen : GenAt S.gm g H0' H'
  tabs : LamX.Tabs S.T H'

/-! ### own collections: sets and dicts whose keys are tuples -/
mutual
/-- the key that a datum is: atoms, and tuples of such -/
def keyN : D → Option NestedKey
  | .none => some .none
  | .bool b => some (.num (if b = true then 1 else 0))
  | .int i => some (.num i)
  | .str x => some (.text x)
  | .tuple ds => (keysN ds).map .tup
  | _ => none
def keysN : List D → Option (List NestedKey)
  | [] => some []
  | d :: ds => (keyN d).bind fun k => (keysN ds).map fun ks => k :: ks
end
/-- a tuple that may be a key -/
def tkey (d : D) : Option NestedKey := match d with
  | .tuple _ => (keyN d).bind fun k => if k.depth ≤ 8 then some k else none
  | _ => none
def SetN0 (w : World) (a : Addr) (L : List (Addr × NestedKey)) (h : Heap) : Prop := ∃ es ep t, (∃ o, h.get? a = some o ∧ o.ExactSet ∧ o.data = .set es ep t) ∧ es.toList = rowsN w L ∧ TabOk t (L.map fun p => nh w p.2) ∧ (L.map (·.2)).Nodup ∧
  (w.params.followText "set-order" = true ∨ t.led = true) ∧ L.length * 5 < t.mask * 3 ∧ L.length < 64
def SetN (w : World) (a : Addr) (L : List (Addr × NestedKey)) : HO := .ext (SetN0 w a L)
/-- a datum at its address, with its key -/
abbrev AD := Addr × D
def kOf (d : D) : NestedKey := (tkey d).getD .none
abbrev kL (ps : List AD) : List (Addr × NestedKey) := ps.map fun p => (p.1, kOf p.2)
/-- the data of a set, at their addresses -/
def OkL (K : KW) (H : Hp) (ps : List AD) : Prop := ∀ p ∈ ps, (tkey p.2).isSome = true ∧ Dr K H (.ref p.1) p.2
abbrev DE := AD × V
def EntR (p : DE) (x : NestedKey × Addr × Value) : Prop := x.1 = kOf p.1.2 ∧ x.2.1 = p.1.1 ∧ RelV p.2 x.2.2
def DctN0 (w : World) (a : Addr) (ps : List DE) (h : Heap) : Prop := ∃ xs, Paired EntR ps xs ∧ (a == sysModules) = false ∧ xs.length ≤ sizeLine ∧ (∃ o es ep, h.get? a = some o ∧ o.ExactDict ∧ o.data = .dict es ep ∧
  es.toList = xs.map fun x => ({ hash := nh w x.1, key := .ref x.2.1, val := x.2.2 } : DictEntry)) ∧ (xs.map (·.1)).Nodup
def DctN (w : World) (a : Addr) (ps : List DE) : HO := .ext (DctN0 w a ps)
/-- what is known of the keys -/
def OkE (K : KW) (H : Hp) (ps : List DE) : Prop := OkL K H (ps.map (·.1))
theorem OkL.same {K : KW} {H H' : Hp} {ps : List AD} (e : Same H H') (h : OkL K H ps) : OkL K H' ps := fun p hp => ⟨(h p hp).1, (h p hp).2.same e⟩
def DvR (K : KW) (H : Hp) (p : DE) (q : D × D) : Prop := p.1.2 = q.1 ∧ Dr K H p.2 q.2
theorem dvR_same {K : KW} {H H' : Hp} (e : Same H H') : ∀ {ps : List DE} {kvs : List (D × D)}, Paired (DvR K H) ps kvs → Paired (DvR K H') ps kvs
  | _, _, .nil => .nil
  | _, _, .cons h t => .cons ⟨h.1, h.2.same e⟩ (dvR_same e t)
/-- what lies at a is this collection -/
def ColR (K : KW) (H : Hp) (a : Addr) : Col → HO → Prop
  | .set ds, o => ∃ ps, o = SetN K.w a (kL ps) ∧ OkL K H ps ∧ (ps.map fun p => p.2).Perm ds
  | .dct kvs, o => ∃ ps, o = DctN K.w a ps ∧ OkE K H ps ∧ Paired (DvR K H) ps kvs
theorem ColR.same {K : KW} {H H' : Hp} {a : Addr} {c : Col} {o : HO} (e : Same H H') (h : ColR K H a c o) : ColR K H' a c o := by
  cases c with
  | set ds => obtain ⟨ps, h1, h2, h3⟩ := h; exact ⟨ps, h1, h2.same e, h3⟩
  | dct kvs => obtain ⟨ps, h1, h2, h3⟩ := h; exact ⟨ps, h1, OkL.same e h2, dvR_same e h3⟩
theorem ColR.ext {K : KW} {H : Hp} {a : Addr} {c : Col} {o : HO} (h : ColR K H a c o) : ∃ f, o = .ext f := by
  cases c with
  | set ds => obtain ⟨ps, h1, _⟩ := h; exact ⟨_, h1⟩
  | dct kvs => obtain ⟨ps, h1, _⟩ := h; exact ⟨_, h1⟩

inductive Sl where
  | un
  | fz (d : D)
  | ow (ds : List D)
  | oc (c : Col)
  | gn
  | sc (ns : List Int)
abbrev Env := List Sl
def SlR (S : Sig) (He H0 H : Hp) (o : Option V) : Sl → Prop
  | .un => True
  | .fz d => ∃ v, o = some v ∧ Dr S.K H0 v d
  | .ow ds => ∃ a xs, o = some (.ref a) ∧ H a = some (.lst xs) ∧ H0 a = none ∧ Fre He a ∧ DrAll S.K H0 xs ds
  | .oc c => ∃ a u, o = some (.ref a) ∧ H a = some u ∧ H0 a = none ∧ Fre He a ∧ ColR S.K H0 a c u
  | .gn => ∃ p, S.gm = some p ∧ o = some (.ref p)
  | .sc ns => ∃ a, o = some (.ref a) ∧ SqL S.K H0 a (ns.map V.int)
/-- a slot that holds an own object -/
def Own (env : Env) (i : Nat) : Prop := (∃ ds, env[i]? = some (.ow ds)) ∨ ∃ c, env[i]? = some (.oc c)
structure Rl (S : Sig) (env : Env) (g : Gen) (σ : St) (He H0e H0 H : Hp) : Prop where
  stp : Stp S.gm H0e He H0 H
  sub : Same H0 H
  gen : GenAt S.gm g H0 H
  ngen : NoG S.gm H0
  tabs : LamX.Tabs S.T H
  ntbl : ∀ a ps, H0 a ≠ some (.tbl ps)
  slots : ∀ (i : Nat) (s : Sl), env[i]? = some s → ∃ o, σ[i]? = some o ∧ SlR S He H0 H o s
  own : ∀ (i j : Nat) (a : Addr), i ≠ j → Own env i → Own env j → σ[i]? = some (some (.ref a)) → σ[j]? ≠ some (some (.ref a))
theorem GenAt.nlst {gm : Option Addr} {g : Gen} {H0 H : Hp} (h : GenAt gm g H0 H) {a : Addr} {xs : List V} (e : H a = some (.lst xs)) : gm ≠ some a := fun z => by
  obtain ⟨_, e', _⟩ := h a z
  rw [e] at e'; cases e'
theorem GenAt.next {gm : Option Addr} {g : Gen} {H0 H : Hp} (h : GenAt gm g H0 H) {a : Addr} {f : Heap → Prop} (e : H a = some (.ext f)) : gm ≠ some a := fun z => by
  obtain ⟨_, e', _⟩ := h a z
  rw [e] at e'; cases e'
theorem sqL_same {K : PySem.W.Frag} {H H' : Hp} {a : Addr} {xs : List V} (e : Same H H') (h : SqL K H a xs) : SqL K H' a xs := by
  rcases h with (h | ⟨o, h⟩) | h
  · exact .inl (.inl (e _ _ h))
  · exact .inl (.inr ⟨o, e _ _ h⟩)
  · exact .inr h
theorem Aft.refl {S : Sig} {env : Env} {g : Gen} {σ : St} {He H0e H0 H : Hp} (r : Rl S env g σ He H0e H0 H) : Aft S g H0 H H0 H := ⟨Stp.refl _ _ _, r.sub, r.gen, r.tabs⟩
theorem Aft.trans {S : Sig} {g g' : Gen} {H0 H H1 H' H2 H'' : Hp} (a : Aft S g H0 H H1 H') (b : Aft S g' H1 H' H2 H'') : Aft S g' H0 H H2 H'' := ⟨a.stp.trans b.stp, b.sub, b.gen, b.tabs⟩
theorem Rl.step {S : Sig} {env : Env} {g g' : Gen} {σ : St} {He H0e H0 H H0' H' : Hp} (r : Rl S env g σ He H0e H0 H) (a : Aft S g' H0 H H0' H') : Rl S env g' σ He H0e H0' H' := by
  have fr0 : ∀ a o, H a = some o → (∀ ps, o ≠ .tbl ps) → H0 a = none → H0' a = none := fun b o h nt h0 => by
    cases e : H0' b with
    | none => rfl
    | some u =>
      rcases a.stp.fresh b (by rw [e]; simp) with q | q
      · exact absurd h0 q
      · exact absurd rfl (q.ne h nt)
  refine ⟨r.stp.trans a.stp, a.sub, a.gen, ?_, a.tabs, fun b ps e => r.ntbl b ps (a.stp.nt b ps e), fun i s e => ?_, r.own⟩
  · intro p hp
    obtain ⟨gl, e, _⟩ := r.gen p hp
    exact fr0 _ _ e (fun ps z => by cases z) (r.ngen p hp)
  · obtain ⟨o, h1, h2⟩ := r.slots i s e
    refine ⟨o, h1, ?_⟩
    cases s with
    | un => trivial
    | fz d => obtain ⟨v, e1, e2⟩ := h2; exact ⟨v, e1, e2.same a.stp.s0⟩
    | gn => exact h2
    | sc ns => obtain ⟨b, e1, e2⟩ := h2; exact ⟨b, e1, sqL_same a.stp.s0 e2⟩
    | ow ds =>
      obtain ⟨b, xs, e1, e2, e3, e4, e5⟩ := h2
      exact ⟨b, xs, e1, a.stp.fr _ _ e2 (r.gen.nlst e2) (fun ps z => by cases z), fr0 _ _ e2 (fun ps z => by cases z) e3, e4, e5.same a.stp.s0⟩
    | oc c =>
      obtain ⟨b, u, e1, e2, e3, e4, e5⟩ := h2
      obtain ⟨f, rfl⟩ := e5.ext
      exact ⟨b, _, e1, a.stp.fr _ _ e2 (r.gen.next e2) (fun ps z => by cases z), fr0 _ _ e2 (fun ps z => by cases z) e3, e4, e5.same a.stp.s0⟩

/-! ### the relation of values -/
def VR (S : Sig) (H0 H : Hp) (v : V) : Vl → Prop
  | .d x => Dr S.K H0 v x
  | .gn => ∃ p, S.gm = some p ∧ v = .ref p
  | .sc ns => ∃ a, v = .ref a ∧ SqL S.K H0 a (ns.map V.int)
  | .bo ds => ∃ a xs, v = .ref a ∧ H a = some (.lst xs) ∧ DrAll S.K H0 xs ds
  | .co c => ∃ a u, v = .ref a ∧ H a = some u ∧ ColR S.K H0 a c u
theorem VR.step {S : Sig} {g g' : Gen} {H0 H H0' H' : Hp} {v : V} {x : Vl} (gen : GenAt S.gm g H0 H) (a : Aft S g' H0 H H0' H') (h : VR S H0 H v x) : VR S H0' H' v x := by
  cases x with
  | d x => exact Dr.same a.stp.s0 h
  | gn => exact h
  | sc ns => obtain ⟨b, e, h1⟩ := h; exact ⟨b, e, sqL_same a.stp.s0 h1⟩
  | bo ds =>
    obtain ⟨b, xs, e, h1, h2⟩ := h
    exact ⟨b, xs, e, a.stp.fr _ _ h1 (gen.nlst h1) (fun ps z => by cases z), h2.same a.stp.s0⟩
  | co c =>
    obtain ⟨b, u, e, h1, h2⟩ := h
    obtain ⟨f, rfl⟩ := h2.ext
    exact ⟨b, _, e, a.stp.fr _ _ h1 (gen.next h1) (fun ps z => by cases z), h2.same a.stp.s0⟩

/-! ### what is wanted of a result -/
def Pst {α β : Type} (S : Sig) (W : WX) (σ : St) (H0 H : Hp) (rel : Hp → Hp → β → α → Prop) (Q : β → Hp → Prop) : Rs α → Prop
  | .ok x g' => ∀ v H0' H', Aft S g' H0 H H0' H' → rel H0' H' v x → Q v H'
  | .er c d g' => ∀ dx v H0' H', Aft S g' H0 H H0' H' → H' dx = some (.xd [(S.at_ c, v)]) → Dr S.K H0' v d → W (.ref (S.cl c)) (some dx) σ H'
  | .st => False
theorem Pst.bd {α β γ δ : Type} {S : Sig} {W : WX} {σ : St} {H0 H : Hp} {rel : Hp → Hp → β → α → Prop} {rel' : Hp → Hp → δ → γ → Prop} {Q : δ → Hp → Prop} {Kt : β → Hp → Prop} {m : M α} {k : α → M γ} {g : Gen}
    (h : Pst S W σ H0 H rel' Q ((m.bd k) g))
    (hk : ∀ x g' v H0' H', Aft S g' H0 H H0' H' → rel H0' H' v x → Pst S W σ H0' H' rel' Q (k x g') → Kt v H') : Pst S W σ H0 H rel Kt (m g) := by
  unfold M.bd at h
  cases e : m g with
  | st => rw [e] at h; exact h
  | er c d g' => rw [e] at h; exact h
  | ok x g' =>
    rw [e] at h
    intro v H0' H' a r
    refine hk x g' v H0' H' a r ?_
    have h : Pst S W σ H0 H rel' Q (k x g') := h
    cases e2 : k x g' with
    | st => rw [e2] at h; exact h
    | er c d g2 =>
      rw [e2] at h
      intro dx v2 H2 H3 a2 q1 q2
      exact h dx v2 H2 H3 (a.trans a2) q1 q2
    | ok y g2 =>
      rw [e2] at h
      intro v2 H2 H3 a2 q
      exact h v2 H2 H3 (a.trans a2) q
def RX {α β : Type} (S : Sig) (W : WX) (rel : Hp → Hp → β → α → Prop) (f : Env → M α) : St → Hp → (β → Hp → Prop) → Prop := fun σ H Q =>
  ∃ env g He H0e H0, Rl S env g σ He H0e H0 H ∧ Pst S W σ H0 H rel Q (f env g)
abbrev RE (S : Sig) (W : WX) (f : Env → M Vl) : TE := RX S W (VR S) f
abbrev relB : Hp → Hp → Bool → Bool → Prop := fun _ _ a b => a = b
abbrev RT (S : Sig) (W : WX) (f : Env → M Bool) : TT := RX S W relB f
inductive VRs (S : Sig) (H0 H : Hp) : List V → List Vl → Prop
  | nil : VRs S H0 H [] []
  | cons {v : V} {vs : List V} {x : Vl} {xs : List Vl} : VR S H0 H v x → VRs S H0 H vs xs → VRs S H0 H (v :: vs) (x :: xs)
abbrev RA (S : Sig) (W : WX) (f : Env → M (List Vl)) : TA := RX S W (VRs S) f
theorem VRs.step {S : Sig} {g g' : Gen} {H0 H H0' H' : Hp} (gen : GenAt S.gm g H0 H) (a : Aft S g' H0 H H0' H') : ∀ {vs : List V} {xs : List Vl}, VRs S H0 H vs xs → VRs S H0' H' vs xs
  | _, _, .nil => .nil
  | _, _, .cons h hs => .cons (VR.step gen a h) (VRs.step gen a hs)

theorem PE.weak {X : Cx} {e : Expr} {t t' : TE} (h : PE X e t) (w : ∀ σ H Q, t' σ H Q → t σ H Q) : PE X e t' := ⟨fun pins s σ H Q I q => h.run pins s σ H Q I (w σ H Q q)⟩
theorem PT.weak {X : Cx} {e : Expr} {t t' : TT} (h : PT X e t) (w : ∀ σ H Q, t' σ H Q → t σ H Q) : PT X e t' := ⟨fun pins s σ H Q I q => h.run pins s σ H Q I (w σ H Q q)⟩
theorem PW.weak {X : Cx} {e : Expr} {t t' : TT} (h : PW X e t) (w : ∀ σ H Q, t' σ H Q → t σ H Q) : PW X e t' := ⟨fun wh pins s σ H Q I q => h.run wh pins s σ H Q I (w σ H Q q)⟩
theorem PA.weak {X : Cx} {e : List Expr} {t t' : TA} (h : PA X e t) (w : ∀ σ H Q, t' σ H Q → t σ H Q) : PA X e t' := ⟨fun pos pins s σ H Q I q => h.run pos pins s σ H Q I (w σ H Q q)⟩
theorem PS.weak {X : Cx} {e : Stmt} {t t' : TS} (h : PS X e t) (w : ∀ D σ H, t' D σ H → t D σ H) : PS X e t' := ⟨fun pins s σ H D I q => h.run pins s σ H D I (w D σ H q)⟩
theorem PSs.weak {X : Cx} {e : List Stmt} {t t' : TS} (h : PSs X e t) (w : ∀ D σ H, t' D σ H → t D σ H) : PSs X e t' := ⟨fun pins s σ H D I q => h.run pins s σ H D I (w D σ H q)⟩

/-! ### operations by values -/
/-- a pure operation of two values: wanted of it: from the data of both to the data of the result, the heap only grown -/
def Op2 (S : Sig) (r : R2) (F : Vl → Vl → Option D) : Prop :=
  ∀ (g : Gen) (x y : V) (a b : Vl) (z : D) (H0 H : Hp) (Q : VK), Same H0 H → GenAt S.gm g H0 H → LamX.Tabs S.T H → VR S H0 H x a → VR S H0 H y b → F a b = some z →
    (∀ v H0' H', Aft S g H0 H H0' H' → Dr S.K H0' v z → Q v H') → r x y H Q
theorem pe_bin {X : Cx} {S : Sig} {W : WX} {a b : Expr} {op : Operator} {r : R2} {fa fb : Env → M Vl} {F : Vl → Vl → Option D} {pos : Pos} (ho : OpR X (binaryOp op) r) (hF : Op2 S r F) (ha : PE X a (RE S W fa)) (hb : PE X b (RE S W fb)) :
    PE X (.BinOp a op b pos) (RE S W fun env => (fa env).bd fun x => (fb env).bd fun y => .ofO ((F x y).map .d)) := by
  refine PE.weak (pe_op ho ha hb) fun σ H Q h => ?_
  obtain ⟨env, g, He, H0e, H0, R, h⟩ := h
  refine ⟨env, g, He, H0e, H0, R, Pst.bd h fun x g1 v H1 H1' a1 r1 h1 => ?_⟩
  refine ⟨env, g1, He, H0e, H1, R.step a1, Pst.bd h1 fun y g2 w H2 H2' a2 r2 h2 => ?_⟩
  have R2 := (R.step a1).step a2
  cases e : F x y with
  | none => rw [e] at h2; exact h2.elim
  | some z =>
    rw [e] at h2
    exact hF g2 v w x y z H2 H2' Q R2.sub R2.gen R2.tabs (r1.step (R.step a1).gen a2) r2 e fun v' H3 H3' a3 r3 => h2 v' H3 H3' a3 r3
end PD
set_option Elab.async false
set_option linter.all false
set_option maxRecDepth 100000
set_option autoImplicit false
namespace PD
open PySem PySem.Spec L2

/-! ### the small language -/
inductive Bf where
  | len | tuple | list | repr | int | all | min2 | isinst (ts : List String)
  deriving DecidableEq
inductive Tg where
  | n (i : Nat)
  | t (is : List Nat)
  deriving DecidableEq
/-- what is asked of one value -/
inductive U1 where
  | srt | dic | rev
  deriving DecidableEq
mutual
inductive E where
  | c (x : D)
  | v (i : Nat)
  | bin (op : Operator) (a b : E)
  | neg (a : E)
  | cmp (op : CmpOp) (a b : E)
  | chain (op op' : CmpOp) (a b c : E)
  | and (a b : E)
  | or (a b : E)
  | not (a : E)
  | ite (t a b : E)
  | tup (es : List E)
  | lst (es : List E)
  | ix (a b : E)
  | sl (a : E) (lo hi : Option E)
  | bf (f : Bf) (es : List E)
  | call (f : Nat) (es : List E)
  | lc (tg : Tg) (it : I) (t : Option E) (e : E) (w : List Nat)
  | said (e : E)
  | gix (i : Nat) (k : Str)
  | dict (ks : List Str) (es : List E)
  | tups (es : List E) (e : E)
  | idx (d : D) (e : E)
  | idl (a e : E)
  | sset (a : E)
  | u1 (k : U1) (a : E)
  | gt (a e : E)
inductive I where
  | e (e : E)
  | rng1 (a : E)
  | rng2 (a b : E)
  | enum (a : E)
end
/-! ### data operations -/
def isFlat : D → Bool
  | .none | .bool _ | .int _ | .str _ => true
  | _ => false
def asD : Vl → Option D
  | .d x => some x
  | .bo ds => some (.list ds)
  | .gn => none
  | .sc _ => none
  | .co _ => none
def truD : D → Option Bool
  | .none => some false
  | .bool b => some b
  | .int i => some (i != 0)
  | .str x => if x.length ≤ sizeLine then some (x.length != 0) else none
  | .list xs => some (!xs.isEmpty)
  | .tuple xs => some (!xs.isEmpty)
  | .dict _ => none
def addD : D → D → Option D
  | .int i, .int j => some (.int (i + j))
  | .str i, .str j => if i.length + j.length ≤ sizeLine then some (.str (i ++ j)) else none
  | .list i, .list j => if i.length + j.length ≤ sizeLine then some (.list (i ++ j)) else none
  | .tuple i, .tuple j => if i.length + j.length ≤ sizeLine then some (.tuple (i ++ j)) else none
  | _, _ => none
def subD : D → D → Option D
  | .int i, .int j => some (.int (i - j))
  | _, _ => none
def mulD : D → D → Option D
  | .int i, .int j => if (-(2 ^ 64) < i ∧ i < 2 ^ 64) ∨ (-(2 ^ 64) < j ∧ j < 2 ^ 64) then some (.int (i * j)) else none
  | .tuple i, .int j => if -1000 ≤ j ∧ j ≤ 1000 ∧ i.length ≤ 1000 then some (.tuple (List.replicate j.toNat i).flatten) else none
  | .list i, .int j => if 0 ≤ j ∧ j ≤ 1000 ∧ i.length ≤ 1000 then some (.list (List.replicate j.toNat i).flatten) else none
  | _, _ => none
def modD : D → D → Option D
  | .int i, .int j => if 0 < j then some (.int (i % j)) else none
  | _, _ => none
def fdivD : D → D → Option D
  | .int i, .int j => if 0 < j ∧ j < 1073741824 then some (.int (i / j)) else none
  | _, _ => none
def powD : D → D → Option D
  | .int i, .int j => if 0 ≤ j ∧ j ≤ 1000000 ∧ i.natAbs < 2 ^ 64 then some (.int (i ^ j.toNat)) else none
  | _, _ => none
def opD (op : Operator) (a b : D) : Option D := match op with
  | .Add => addD a b
  | .Sub => subD a b
  | .Mult => mulD a b
  | .Mod => modD a b
  | .FloorDiv => fdivD a b
  | .Pow => powD a b
  | _ => none
def binD (op : Operator) (a b : Vl) : Option D := (asD a).bind fun x => (asD b).bind fun y => opD op x y
def inD (x : D) : List D → Bool
  | [] => false
  | y :: ys => PyData.eqv y x || inD x ys
def eqD (x y : D) : Option Bool := if SeqAt.shaped x && SeqAt.shaped y then some (PyData.eqv x y) else none
/-- a tuple beside the empty one: whatever it holds -/
def nilEq : D → D → Option Bool
  | .tuple xs, .tuple [] => some xs.isEmpty
  | _, _ => none
def eqE (x y : D) : Option Bool := match eqD x y with
  | some k => some k
  | none => nilEq x y
def ltD : D → D → Option Bool
  | .int i, .int j => some (decide (i < j))
  | _, _ => none
def leD : D → D → Option Bool
  | .int i, .int j => some (decide (i ≤ j))
  | _, _ => none
/-! dicts whose keys are whole numbers and texts -/
def isKeyD : D → Bool
  | .int _ => true
  | .str _ => true
  | _ => false
def dFind (x : D) : List (D × D) → Option D
  | [] => none
  | q :: r => if PyData.eqv q.1 x then some q.2 else dFind x r
def dPut (x v : D) (kvs : List (D × D)) : List (D × D) := if kvs.any (fun q => PyData.eqv q.1 x) then kvs.map (fun q => if PyData.eqv q.1 x then (q.1, v) else q) else kvs ++ [(x, v)]
def memD (x : D) : D → Option Bool
  | .dict kvs => if isKeyD x && kvs.all (fun q => isKeyD q.1) then some (dFind x kvs).isSome else none
  | .list ys => if isFlat x && ys.all isFlat then some (inD x ys) else if SeqAt.shaped x && PyData.canLayAll0 ys then some (inD x ys) else none
  | .tuple ys => if isFlat x && ys.all isFlat then some (inD x ys) else if SeqAt.shaped x && PyData.canLayAll0 ys then some (inD x ys) else none
  | _ => none
def isD : D → D → Option Bool
  | .none, .none => some true
  | _, .none => some false
  | .bool a, .bool b => some (decide (a = b))
  | _, _ => none
def cmpOp (op : CmpOp) (x y : D) : Option Bool := match op with
  | .Eq => eqE x y
  | .NotEq => (eqD x y).map (!·)
  | .Lt => ltD x y
  | .LtE => leD x y
  | .Gt => ltD y x
  | .GtE => leD y x
  | .In => memD x y
  | .NotIn => (memD x y).map (!·)
  | .Is => isD x y
  | .IsNot => (isD x y).map (!·)
def cmpD (op : CmpOp) (a b : Vl) : Option Bool := (asD a).bind fun x => (asD b).bind fun y => cmpOp op x y
def itD : D → D → Option D
  | .dict kvs, x => if isKeyD x && kvs.all (fun q => isKeyD q.1) then dFind x kvs else none
  | .list xs, .int i => atI xs i
  | .tuple xs, .int i => atI xs i
  | _, _ => none
def ixD (a b : Vl) : Option D := (asD a).bind fun x => (asD b).bind fun y => itD x y
def cutD (xs : List D) (lo hi : Option Int) : List D := (xs.drop (HT.sIx xs.length 0 lo)).take (HT.sIx xs.length xs.length hi - HT.sIx xs.length 0 lo)
def slD (a : Vl) (lo hi : Option Int) : Option D :=
  match asD a with
  | some (.list xs) => some (.list (cutD xs lo hi))
  | some (.tuple xs) => some (.tuple (cutD xs lo hi))
  | _ => none
def tyS : D → String
  | .none => "NoneType"
  | .bool _ => "bool"
  | .int _ => "int"
  | .str _ => "str"
  | .list _ => "list"
  | .tuple _ => "tuple"
  | .dict _ => "dict"
def tySub (a b : String) : Bool := a == b || (a == "bool" && b == "int")
def lenD : D → Option D
  | .list xs => some (.int xs.length)
  | .tuple xs => some (.int xs.length)
  | .str x => if x.length ≤ sizeLine then some (.int x.length) else none
  | _ => none
def tupleD : D → Option D
  | .list xs => some (.tuple xs)
  | .tuple xs => some (.tuple xs)
  | _ => none
def listD : D → Option D
  | .list xs => some (.list xs)
  | .tuple xs => some (.list xs)
  | _ => none
def reprOk (x : D) : Bool := x.showable && decide (x.shown.length ≤ sizeLine) && decide (x.depth ≤ 64)
def reprD (x : D) : Option D := if reprOk x then some (.str x.shown) else none
def intD : D → Option D
  | .int i => some (.int i)
  | .bool b => some (.int (if b then 1 else 0))
  | _ => none
def boolOf : D → Option Bool
  | .bool b => some b
  | _ => none
def allD : D → Option D
  | .list xs => (xs.mapM boolOf).map fun bs => .bool (bs.all id)
  | _ => none
def minD : D → D → Option D
  | .int i, .int j => some (.int (if j < i then j else i))
  | _, _ => none
def isiD (ts : List String) (x : D) : D := .bool (ts.any fun t => tySub (tyS x) t)
def bf1 (f : Bf) (x : D) : Option D := match f with
  | .len => lenD x
  | .tuple => tupleD x
  | .list => listD x
  | .repr => reprD x
  | .int => intD x
  | .all => allD x
  | .isinst ts => some (isiD ts x)
  | .min2 => none
def scLen (f : Bf) (a : Vl) : Option D := match f, a with
  | .len, .sc ns => some (.int ns.length)
  | .list, .co (.dct kvs) => some (.list (kvs.map (·.1)))
  | _, _ => none
def bfD (f : Bf) : List Vl → Option D
  | [a] => (match scLen f a with
    | some d => some d
    | none => (asD a).bind fun x => bf1 f x)
  | [a, b] => (match f with
    | .min2 => (asD a).bind fun x => (asD b).bind fun y => minD x y
    | _ => none)
  | _ => none
def isTupD : D → Bool
  | .tuple _ => true
  | _ => false
def strD : D → Option Str
  | .str x => some x
  | _ => none
/-- the first place of a word -/
def idxS (x : Str) : List Str → Option Nat
  | [] => none
  | y :: ys => if y = x then some 0 else (idxS x ys).map (· + 1)
def idxD (d x : D) : Option D := match d, x with
  | .tuple ds, .str x => (ds.mapM strD).bind fun ys => (idxS x ys).map fun i => .int (i : Nat)
  | _, _ => none
/-- the first place of a flat thing in a list of flat ones -/
def idxF (x : D) : List D → Option Nat
  | [] => none
  | y :: ys => if PyData.eqv y x then some 0 else (idxF x ys).map (· + 1)
def intO : D → Option Int
  | .int i => some i
  | _ => none
def insI (x : Int) : List Int → List Int
  | [] => [x]
  | y :: r => if x < y then x :: y :: r else if x = y then y :: r else y :: insI x r
/-- the members, ascending, each once -/
def ssI (ns : List Int) : List Int := ns.foldr insI []
def ssetD : D → Option D
  | .list xs => (xs.mapM intO).bind fun ns => if ns.length < 60 then some (.list ((ssI ns).map .int)) else none
  | _ => none
def idlD (ds : List D) (x : D) : Option D := if isFlat x && ds.all isFlat then (idxF x ds).map fun i => .int (i : Nat) else none
def lsOf (x : Vl) : Option (List D) := match asD x with
  | some (.list ds) => some ds
  | _ => none
/-! ### sorted -/
def insD (x : D) : List D → List D
  | [] => [x]
  | y :: r => if PySem.W.dataLt y x then y :: insD x r else x :: y :: r
/-- in order, equal ones in their old order -/
def isortD (xs : List D) : List D := xs.foldr insD []
def tupNE : D → Bool
  | .tuple (_ :: _) => true
  | _ => false
def notNT : D → Bool
  | .none => false
  | .tuple _ => false
  | _ => true
def srtOk (xs : List D) : Bool := xs.all (fun x => xs.all (PySem.W.alike x)) && ((xs.all tupNE || xs.all notNT) && xs.all (fun x => decide (x.depth ≤ 64)))
def srtD : D → Option D
  | .list xs => if srtOk xs then some (.list (isortD xs)) else none
  | _ => none
/-! ### dict(pairs) -/
def pairK : D → Option (D × D)
  | .tuple [k, v] => if isKeyD k then some (k, v) else none
  | _ => none
def mergeD (kvs more : List (D × D)) : List (D × D) := more.foldl (fun acc q => dPut q.1 q.2 acc) kvs
def dicD : D → Option D
  | .list ps => (ps.mapM pairK).map fun kvs => .dict (mergeD [] kvs)
  | _ => none
/-- x[::-1] -/
def revD : D → Option D
  | .list xs => some (.list xs.reverse)
  | .tuple xs => some (.tuple xs.reverse)
  | _ => none
def u1D : U1 → D → Option D
  | .srt => srtD
  | .dic => dicD
  | .rev => revD
/-! ### d.get(k, None) -/
def kvOf (x : Vl) : Option (List (D × D)) := match asD x with
  | some (.dict kvs) => some kvs
  | _ => none
def getK (kvs : List (D × D)) (x : D) : Option D := if isKeyD x && kvs.all (fun q => isKeyD q.1) then some ((dFind x kvs).getD .none) else none
/-- a question of one value; of a set of tuples: the list in order -/
def u1V (k : U1) : Vl → Option D
  | .co (.set ds) => (match k with
    | .srt => if srtOk ds then some (.list (isortD ds)) else none
    | _ => none)
  | x => (asD x).bind (u1D k)
@[simp] theorem u1V_d (k : U1) (d : D) : u1V k (.d d) = u1D k d := rfl
@[simp] theorem u1V_bo (k : U1) (ds : List D) : u1V k (.bo ds) = u1D k (.list ds) := rfl
/-! ### what the small language says -/
def Env.get (env : Env) (i : Nat) : M Vl := match env[i]? with
  | some (.fz d) => .pu (.d d)
  | some (.ow ds) => .pu (.bo ds)
  | some (.oc c) => .pu (.co c)
  | some .gn => .pu .gn
  | some (.sc ns) => .pu (.sc ns)
  | _ => .stuck
def setTgs (env : Env) : List Nat → List D → Option Env
  | [], [] => some env
  | i :: is, d :: ds => if i < env.length then setTgs (env.set i (.fz d)) is ds else none
  | _, _ => none
def setTg (env : Env) : Tg → D → Option Env
  | .n i, d => if i < env.length then some (env.set i (.fz d)) else none
  | .t is, .tuple ds => setTgs env is ds
  | .t _, _ => none
def tgIx : Tg → List Nat
  | .n i => [i]
  | .t is => is
def wipeE (env : Env) : List Nat → Env
  | [] => env
  | v :: vs => (wipeE env vs).set v .un
def dOf : Vl → Option D
  | .d x => some x
  | _ => none
/-- a result that may be stored -/
def solid : Vl → M D
  | .d x => .pu x
  | _ => .stuck
def toInt : Vl → M Int
  | .d (.int i) => .pu i
  | _ => .stuck
def M.onSome {α β : Type} (o : Option α) (f : α → M β) : M (Option β) := match o with
  | none => .pu none
  | some a => (f a).bd fun b => .pu (some b)
/-- no refusal leaves -/
def M.calm {α : Type} (m : M α) : M α := fun g => match m g with
  | .ok a g' => .ok a g'
  | _ => .st
/-- over the items, one after another -/
def mapB (f : D → M (Option D)) : List D → M (List D)
  | [] => .pu []
  | x :: xs => (f x).bd fun y => (mapB f xs).bd fun ys => .pu (match y with | some y => y :: ys | none => ys)
def rngD (lo hi : Int) : Option (List D) := if -(2 ^ 62) ≤ lo ∧ lo < 2 ^ 62 ∧ -(2 ^ 62) ≤ hi ∧ hi < 2 ^ 62 then some ((List.range (hi - lo).toNat).map fun (i : Nat) => .int (lo + i)) else none
def seqOf : Vl → Option (List D)
  | .d (.list xs) => some xs
  | .d (.tuple xs) => some xs
  | .bo xs => some xs
  | _ => none
def seqE : Vl → Option (List D)
  | .sc ns => some (ns.map .int)
  | .d (.dict kvs) => some (kvs.map (·.1))
  | x => seqOf x
def enumD (i : Nat) : List D → List D
  | [] => []
  | x :: xs => .tuple [.int i, x] :: enumD (i + 1) xs
/-- what a refusal is called -/
def saidOf (word : Str → Option (Option Str)) (c : Str) (d : D) : Option D := if c = "" then none else match word c with
  | some (some w) => some (.tuple [.str w, d])
  | some none => some (.tuple [.str "question"])
  | none => none
/-- what is told of no refusal: the empty word says that the thing itself is told, in a list -/
def saidOk (word : Str → Option (Option Str)) (x : Vl) : Option D := match word "" with
  | some none => (dOf x).map fun d => .list [d]
  | _ => some (.tuple [.str "said"])
/-- what the drawing's dict holds -/
def gGet (k : Str) (g : Gen) : Option D :=
  if k = "great" then some (.list (g.great.map .int)) else if k = "seed" then some (.int g.seed) else if k = "turns" then some (.int g.turns) else none
def intOf : D → Option Int
  | .int i => some i
  | _ => none
def gSet (k : Str) (d : D) (g : Gen) : Option Gen :=
  if k = "great" then (match d with
    | .list ds => (ds.mapM intOf).map fun is => { g with great := is }
    | _ => none)
  else if k = "seed" then (intOf d).map fun i => { g with seed := i }
  else if k = "turns" then (intOf d).map fun i => { g with turns := i } else none
def gxD (s : Option Sl) (k : Str) : M Vl := fun g => match s with
  | some .gn => (match gGet k g with
    | some d => .ok (.d d) g
    | none => .st)
  | _ => .st
structure Fns where
  call : Nat → List Vl → M D
  word : Str → Option (Option Str)
mutual
def ev (F : Fns) : E → Env → M Vl
  | .c x, _ => .pu (.d x)
  | .v i, env => env.get i
  | .bin op a b, env => (ev F a env).bd fun x => (ev F b env).bd fun y => .ofO ((binD op x y).map .d)
  | .neg a, env => (ev F a env).bd fun x => (toInt x).bd fun i => .pu (.d (.int (-i)))
  | .cmp op a b, env => (ev F a env).bd fun x => (ev F b env).bd fun y => .ofO ((cmpD op x y).map fun b => .d (.bool b))
  | .chain op op' a b c, env => (ev F a env).bd fun x => (ev F b env).bd fun y => (M.ofO (cmpD op x y)).bd fun k => if k then (ev F c env).bd fun z => .ofO ((cmpD op' y z).map fun b => .d (.bool b)) else .pu (.d (.bool false))
  | .and a b, env => (ev F a env).bd fun x => (M.ofO ((asD x).bind truD)).bd fun k => if k then ev F b env else .pu x
  | .or a b, env => (ev F a env).bd fun x => (M.ofO ((asD x).bind truD)).bd fun k => if k then .pu x else ev F b env
  | .not a, env => (ev F a env).bd fun x => (M.ofO ((asD x).bind truD)).bd fun k => .pu (.d (.bool !k))
  | .ite t a b, env => (evT F t env).bd fun k => if k then ev F a env else ev F b env
  | .tup es, env => (evs F es env).bd fun xs => (M.ofO (xs.mapM dOf)).bd fun ds => if ds.length ≤ sizeLine then .pu (.d (.tuple ds)) else .stuck
  | .lst es, env => (evs F es env).bd fun xs => (M.ofO (xs.mapM dOf)).bd fun ds => if ds.length ≤ sizeLine then .pu (.d (.list ds)) else .stuck
  | .ix a b, env => (ev F a env).bd fun x => (ev F b env).bd fun y => .ofO ((ixD x y).map .d)
  | .sl a lo hi, env => (ev F a env).bd fun x => (evO F lo env).bd fun l => (evO F hi env).bd fun h => .ofO ((slD x l h).map .d)
  | .bf f es, env => (evs F es env).bd fun xs => .ofO ((bfD f xs).map .d)
  | .call f es, env => (evs F es env).bd fun xs => (F.call f xs).bd fun d => .pu (.d d)
  | .lc tg it t e w, env => (evI F it env).bd fun ds => (mapB (fun d => M.calm ((M.ofO (setTg (wipeE env w) tg d)).bd fun env' => (evOT F t env').bd fun k =>
      if k then (ev F e env').bd fun y => (solid y).bd fun y => .pu (some y) else .pu none)) ds).bd fun ys => if ys.length ≤ sizeLine then .pu (.d (.list ys)) else .stuck
  | .said e, env => fun g => match ev F e env g with
    | .ok x g' => (M.ofO ((saidOk F.word x).map .d)) g'
    | .er c d g' => (M.ofO ((saidOf F.word c d).map .d)) g'
    | .st => .st
  | .gix i k, env => gxD env[i]? k
  | .dict ks es, env => (evs F es env).bd fun xs => (M.ofO (xs.mapM dOf)).bd fun ds => if ks.length = ds.length ∧ ks.Nodup ∧ ks.length ≤ 15 then .pu (.d (.dict ((ks.map .str).zip ds))) else .stuck
  | .tups es e, env => (evs F es env).bd fun xs => (ev F e env).bd fun y => (M.ofO (seqOf y)).bd fun zs => (M.ofO (xs.mapM dOf)).bd fun ds => if ds.length + zs.length ≤ sizeLine then .pu (.d (.tuple (ds ++ zs))) else .stuck
  | .sset a, env => (ev F a env).bd fun x => .ofO (((asD x).bind ssetD).map .d)
  | .u1 k a, env => (ev F a env).bd fun x => .ofO ((u1V k x).map .d)
  | .gt a e, env => (ev F a env).bd fun x => (M.ofO (kvOf x)).bd fun kvs => (ev F e env).bd fun y => .ofO (((asD y).bind (getK kvs)).map .d)
  | .idl a e, env => (ev F a env).bd fun x => (M.ofO (lsOf x)).bd fun ds => (ev F e env).bd fun y => .ofO (((asD y).bind (idlD ds)).map .d)
  | .idx d e, env => (ev F e env).bd fun x => .ofO (((asD x).bind (idxD d)).map .d)
termination_by structural e => e
def evT (F : Fns) : E → Env → M Bool
  | .and a b, env => (evT F a env).bd fun k => if k then evT F b env else .pu false
  | .or a b, env => (evT F a env).bd fun k => if k then .pu true else evT F b env
  | .not a, env => (evT F a env).bd fun k => .pu !k
  | .cmp op a b, env => (ev F a env).bd fun x => (ev F b env).bd fun y => .ofO (cmpD op x y)
  | .chain op op' a b c, env => (ev F a env).bd fun x => (ev F b env).bd fun y => (M.ofO (cmpD op x y)).bd fun k => if k then (ev F c env).bd fun z => .ofO (cmpD op' y z) else .pu false
  | .ite t a b, env => (evT F t env).bd fun k => if k then evT F a env else evT F b env
  | .c x, _ => .ofO (truD x)
  | .v i, env => (env.get i).bd fun x => .ofO ((asD x).bind truD)
  | .bin op a b, env => (ev F a env).bd fun x => (ev F b env).bd fun y => .ofO ((binD op x y).bind truD)
  | .ix a b, env => (ev F a env).bd fun x => (ev F b env).bd fun y => .ofO ((ixD x y).bind truD)
  | .bf f es, env => (evs F es env).bd fun xs => .ofO ((bfD f xs).bind truD)
  | .call f es, env => (evs F es env).bd fun xs => (F.call f xs).bd fun d => .ofO (truD d)
  | _, _ => .stuck
termination_by structural e => e
def evO (F : Fns) : Option E → Env → M (Option Int)
  | none, _ => .pu none
  | some e, env => (ev F e env).bd fun x => (toInt x).bd fun i => .pu (some i)
termination_by structural e => e
def evOT (F : Fns) : Option E → Env → M Bool
  | none, _ => .pu true
  | some e, env => evT F e env
termination_by structural e => e
def evs (F : Fns) : List E → Env → M (List Vl)
  | [], _ => .pu []
  | e :: es, env => (ev F e env).bd fun x => (evs F es env).bd fun xs => .pu (x :: xs)
termination_by structural e => e
def evI (F : Fns) : I → Env → M (List D)
  | .e e, env => (ev F e env).bd fun x => .ofO (seqE x)
  | .rng1 a, env => (ev F a env).bd fun x => (toInt x).bd fun i => .ofO (rngD 0 i)
  | .rng2 a b, env => (ev F a env).bd fun x => (ev F b env).bd fun y => (toInt x).bd fun i => (toInt y).bd fun j => .ofO (rngD i j)
  | .enum a, env => (ev F a env).bd fun x => (M.ofO (seqOf x)).bd fun ds => .pu (enumD 0 ds)
termination_by structural e => e
end
end PD
set_option Elab.async false
set_option linter.all false
set_option maxRecDepth 100000
set_option autoImplicit false
namespace PD
open PySem PySem.Spec L2

/-! ### from the text to the small language -/
structure Cfg where
  N : List Str
  sc : Scope
  fns : List (Str × Nat)
  consts : List (Str × D)
  excs : List Str
  gs : List Str
  lam : Bool
def ixOf : List Str → Str → Option Nat
  | [], _ => none
  | y :: ys, x => if x = y then some 0 else (ixOf ys x).map (· + 1)
def visB (sc : Scope) (x : Str) : Bool := match sc.names.lookup x with
  | some .local => true
  | some .cell => true
  | some .free => true
  | _ => false
def locB (sc : Scope) (x : Str) : Bool := match sc.names.lookup x with
  | some .local => true
  | some .cell => true
  | _ => false
def glB (sc : Scope) (x : Str) : Bool := match sc.names.lookup x with
  | some .globalImplicit => true
  | _ => false
def dbg (x : Str) : Bool := (x == ("__debug__" : Str)) || (x == ("__classdict__" : Str))
def Cfg.slot (C : Cfg) (x : Str) : Option Nat := if locB C.sc x && !dbg x then ixOf C.N x else none
def Cfg.var (C : Cfg) (x : Str) : Option Nat := if visB C.sc x && !dbg x then ixOf C.N x else none
def fnIx : List (Str × Nat) → Str → Nat → Option Nat
  | [], _, _ => none
  | (y, k) :: r, x, n => if x = y then (if k = n then some 0 else none) else (fnIx r x n).map (· + 1)
def tyName (e : Expr) (C : Cfg) : Option String := match e with
  | .Name x _ => if glB C.sc x then (if x = "str" then some "str" else if x = "int" then some "int" else if x = "bool" then some "bool" else if x = "tuple" then some "tuple" else if x = "list" then some "list" else none) else none
  | _ => none
def andE : List E → Option E
  | [] => none
  | [a] => some a
  | a :: b :: r => (andE (b :: r)).map (E.and a)
def orE : List E → Option E
  | [] => none
  | [a] => some a
  | a :: b :: r => (orE (b :: r)).map (E.or a)
def opOk : Operator → Bool
  | .Add | .Sub | .Mult | .Mod | .FloorDiv | .Pow => true
  | _ => false
def cmpOk : CmpOp → Bool
  | _ => true
def Cfg.slotE (C : Cfg) : Expr → Option Nat
  | .Name x _ => C.slot x
  | _ => none
def cName (C : Cfg) (x : Str) : Option E := match C.var x with
  | some i => some (.v i)
  | none => if glB C.sc x && !dbg x then (C.consts.lookup x).map .c else none
def rngOk (C : Cfg) (f : Str) (n : Nat) : Bool := glB C.sc f && f = "range" && (fnIx C.fns f n).isNone
def enumOk (C : Cfg) (f : Str) (tt : Bool) : Bool := glB C.sc f && f = "enumerate" && tt && (fnIx C.fns f 1).isNone
def cTg (C : Cfg) : Expr → Option Tg
  | .Name x _ => (C.slot x).map .n
  | .Tuple es _ _ => (es.mapM (C.slotE)).map .t
  | _ => none
def isTup : Expr → Bool
  | .Tuple _ _ _ => true
  | _ => false
/-- a block's scope as it runs: what is a cell outside is one within -/
def relS (sc scope : Scope) : Scope := { scope with names := scope.names.map fun (n, k) => if (k == .free && sc.kind == .function && sc.names.lookup n == some .cell) then (n, .cell) else (n, k) }
def Cfg.inn (C : Cfg) (scope : Scope) : Cfg := { C with sc := relS C.sc scope, lam := false }
/-- within a lambda -/
def Cfg.lamb (C : Cfg) (scope : Scope) : Cfg := { C with sc := scope, lam := false }
def noPar (a : Arguments) : Bool := a.posonlyargs.isEmpty && a.args.isEmpty && a.vararg.isNone && a.kwonlyargs.isEmpty && a.kw_defaults.isEmpty && a.kwarg.isNone && a.defaults.isEmpty
def onePN (a : Arguments) : Option Str := match a with
  | ⟨[], [⟨y, none, _⟩], none, [], [], none, [.Constant (.int _) _ _]⟩ => if y = "x" ∨ y = "y" then some y else none
  | _ => none
def lamDB (N : List Str) (sc scope : Scope) (y : Str) : Bool :=
  decide (scope.kind = .function) && (!scope.isCoroutine && (!scope.isGenerator && (decide (scope.names.lookup y = some NameKind.local) && (decide (y ∉ N) && scope.names.all fun z => !decide (z.2 = .cell) && ((!decide (z.2 = .local) || decide (z.1 = y)) && (!decide (z.2 = .free) || (decide (sc.names.lookup z.1 = some .cell) || decide (sc.names.lookup z.1 = some .free))))))))
/-- a lambda of nothing, or of a number that none asks for -/
def lamB (C : Cfg) (params : Arguments) (scope : Scope) : Bool := (noPar params && LamX.lamSB C.sc scope) || (match onePN params with
  | some y => lamDB C.N C.sc scope y
  | none => false)
def Cfg.tgt (C : Cfg) (scope : Scope) : Cfg := { C with sc := scope }
def ownOf (N : List Str) (scope : Scope) : List (Str × Nat) := scope.names.filterMap fun y => match y.2 with
  | .local => (ixOf N y.1).map fun i => (y.1, i)
  | .cell => (ixOf N y.1).map fun i => (y.1, i)
  | _ => none
def keyE : Option Expr → Option Str
  | some (.Constant (.str k) _ _) => some k
  | _ => none
def isCallE : Expr → Bool
  | .Call (.Name _ _) (_ :: _) _ _ => true
  | _ => false
/-- [::-1] -/
def isRevS : Expr → Bool
  | .Slice none none (some (.UnaryOp .USub (.Constant (.int 1) _ _) _)) _ => true
  | _ => false
def oneU (k : U1) : List E → Option E
  | [a] => some (.u1 k a)
  | _ => none
def orSrt (a b : Option E) : Option E := match b with
  | some c => some c
  | none => a
mutual
def cE (C : Cfg) : Expr → Option E
  | .Constant (.int i) _ _ => some (.c (.int i))
  | .Constant (.str x) _ _ => some (.c (.str x))
  | .Constant (.bool b) _ _ => some (.c (.bool b))
  | .Constant .none _ _ => some (.c .none)
  | .Name x _ => cName C x
  | .BinOp a op b _ => if opOk op then (cE C a).bind fun a => (cE C b).map fun b => .bin op a b else none
  | .UnaryOp .Not a _ => (cE C a).map .not
  | .UnaryOp .USub a _ => (cE C a).map .neg
  | .BoolOp .And es _ => (cEs C es).bind andE
  | .BoolOp .Or es _ => (cEs C es).bind orE
  | .Compare a [op] [b] _ => if behindInMarks op b then none else (cE C a).bind fun a => (cE C b).map fun b => .cmp op a b
  | .Compare a [op, op'] [b, c] _ => if lastMarks [op, op'] [b, c] then none else (cE C a).bind fun a => (cE C b).bind fun b => (cE C c).map fun c => .chain op op' a b c
  | .IfExp t a b _ => (cE C t).bind fun t => (cE C a).bind fun a => (cE C b).map fun b => .ite t a b
  | .Tuple es _ _ => match cEs C es with
    | some cs => some (.tup cs)
    | none => (cEst C es).map fun q => .tups q.1 q.2
  | .List es _ => (cEs C es).map .lst
  | .Subscript (.Name x _) (.Constant (.str k) _ _) _ => if x ∈ C.gs then (C.var x).map fun i => .gix i k else none
  | .Dict keys es _ => (keys.mapM keyE).bind fun ks => if keys.length = es.length ∧ keys.length ≤ 15 then (cEs C es).map fun cs => .dict ks cs else none
  | .Subscript a (.Slice lo hi none _) _ => (cE C a).bind fun a => (cEO C lo).bind fun lo => (cEO C hi).map fun hi => .sl a lo hi
  | .Subscript a b _ => if isRevS b then (cE C a).map (.u1 .rev) else (cE C a).bind fun a => (cE C b).map fun b => .ix a b
  | .ListComp elt [⟨tg, iter, ifs, 0⟩] scope _ => match blkC C.N C.sc scope (ownOf C.N scope) with
    | true => ((match iter with
      | .Call (.Name f _) [a] [] _ => if rngOk C f 1 then some ((cE C a).map I.rng1) else if enumOk C f (isTup tg) then some ((cE C a).map I.enum) else none
      | .Call (.Name f _) [a, b] [] _ => if rngOk C f 2 then some ((cE C a).bind fun a => (cE C b).map fun b => I.rng2 a b) else none
      | _ => none).getD ((cE C iter).map I.e)).bind fun it => (cTg (C.tgt scope) tg).bind fun t => (cIfs (C.inn scope) ifs).bind fun k => (cE (C.inn scope) elt).bind fun e =>
      if (tgIx t).all (fun i => decide (i ∈ (ownOf C.N scope).map Prod.snd)) then some (.lc t it k e ((ownOf C.N scope).map Prod.snd)) else none
    | false => none
  | .Call (.Attribute (.Name x _) m apos) [e] [] cpos =>
    if m = "index" && glB C.sc x && !dbg x && (apos.endLine == cpos.line) then (C.consts.lookup x).bind fun d => if isTupD d then (cE C e).map fun c => .idx d c else none else none
  | .Call (.Attribute (.List es _) m apos) [e] [] cpos =>
    if m = "index" && (apos.endLine == cpos.line) then (cEs C es).bind fun cs => (cE C e).map fun c => .idl (.lst cs) c else none
  | .Call (.Attribute (.Call gf ges gks gp) m apos) [e, .Constant .none _ _] [] cpos =>
    if m = "get" && isCallE (.Call gf ges gks gp) && (apos.endLine == cpos.line) then (cE C (.Call gf ges gks gp)).bind fun a => (cE C e).map fun c => .gt a c else none
  | .Call (.Name f _) [a, b] [] _ =>
    if f = "isinstance" && glB C.sc f && (fnIx C.fns f 2).isNone then (match b with
      | .Tuple ts _ _ => (ts.mapM fun t => tyName t C).bind fun ts => if ts.length ≤ 10 then (cE C a).map fun a => .bf (.isinst ts) [a] else none
      | t => (tyName t C).bind fun t => (cE C a).map fun a => .bf (.isinst [t]) [a])
    else if glB C.sc f && !dbg f then (cE C a).bind fun a => (cE C b).bind fun b =>
      (match fnIx C.fns f 2 with
      | some i => some (.call i [a, b])
      | none => if f = "min" then some (.bf .min2 [a, b]) else none)
    else none
  | .Call (.Name f _) [.Lambda params body scope _] [] _ =>
    if C.lam && f = "_law_said" && glB C.sc f && lamB C params scope then (cE (C.lamb scope) body).map .said else none
  | .Call (.Name f _) es [] _ =>
    if f = "sorted" && glB C.sc f && (fnIx C.fns f 1).isNone then orSrt ((cEs C es).bind (oneU .srt)) (match es with
      | [.Call (.Name g _) [a] [] _] => if g = "set" && glB C.sc g && (fnIx C.fns g 1).isNone then (cE C a).map .sset else none
      | _ => none)
    else if glB C.sc f && !dbg f then (cEs C es).bind fun xs => (match fnIx C.fns f xs.length with
      | some i => some (.call i xs)
      | none =>
        if f = "len" && xs.length = 1 then some (.bf .len xs)
        else if f = "tuple" && xs.length = 1 then some (.bf .tuple xs)
        else if f = "list" && xs.length = 1 then some (.bf .list xs)
        else if f = "repr" && xs.length = 1 then some (.bf .repr xs)
        else if f = "int" && xs.length = 1 then some (.bf .int xs)
        else if f = "all" && xs.length = 1 then some (.bf .all xs)
        else if f = "min" && xs.length = 2 then some (.bf .min2 xs)
        else if f = "dict" then oneU .dic xs
        else none)
    else none
  | _ => none
termination_by structural e => e
def cEs (C : Cfg) : List Expr → Option (List E)
  | [] => some []
  | e :: es => (cE C e).bind fun a => (cEs C es).map fun as => a :: as
termination_by structural e => e
def cEst (C : Cfg) : List Expr → Option (List E × E)
  | [] => none
  | [.Starred e _] => (cE C e).map fun c => ([], c)
  | e :: es => (cE C e).bind fun a => (cEst C es).map fun q => (a :: q.1, q.2)
termination_by structural e => e
def cEO (C : Cfg) : Option Expr → Option (Option E)
  | none => some none
  | some e => (cE C e).map some
termination_by structural e => e
def cIfs (C : Cfg) : List Expr → Option (Option E)
  | [] => some none
  | [e] => (cE C e).map some
  | _ => none
termination_by structural e => e
end
end PD
set_option Elab.async false
set_option linter.all false
set_option maxRecDepth 100000
set_option autoImplicit false
namespace PD
open PySem PySem.Spec L2

/-! ### small facts of the relation -/
section
variable {S : Sig} {H0 H : Hp} {v : V} {K : KW}
theorem VR.full (sub : Same H0 H) {x : Vl} {d : D} (h : VR S H0 H v x) (e : asD x = some d) : Dr S.K H v d := by
  cases x with
  | d y => cases e; exact Dr.same sub h
  | gn => cases e
  | sc _ => cases e
  | co _ => cases e
  | bo ds =>
    cases e
    obtain ⟨a, xs, rfl, h1, h2⟩ := h
    exact .lst h1 (h2.same sub)
theorem Dr.int_inv {i : Int} (h : Dr K H v (.int i)) : v = .int i := by cases h; rfl
theorem Dr.str_inv {i : Str} (h : Dr K H v (.str i)) : v = .str i := by cases h; rfl
theorem Dr.bl_inv {i : Bool} (h : Dr K H v (.bool i)) : v = .bl i := by cases h; rfl
theorem Dr.non_inv (h : Dr K H v .none) : v = .non := by cases h; rfl
theorem Dr.lst_inv {ds : List D} (h : Dr K H v (.list ds)) : ∃ a xs, v = .ref a ∧ H a = some (.lst xs) ∧ DrAll K H xs ds := by cases h with | lst h1 h2 => exact ⟨_, _, rfl, h1, h2⟩
theorem Dr.tup_inv {ds : List D} (h : Dr K H v (.tuple ds)) : ∃ a xs, v = .ref a ∧ SqT K H a xs ∧ DrAll K H xs ds := by cases h with | tup h1 h2 => exact ⟨_, _, rfl, h1, h2⟩
mutual
theorem Dr.dp : ∀ {v : V} {d : D}, Dr K H v d → d.canLay0 = true → Dp K H v d
  | _, _, .non, _ => .non
  | _, _, .bl b, _ => .bl b
  | _, _, .int i, _ => .int i
  | _, _, .str x, _ => .str x
  | _, _, .lst h hs, c => .lst (SqL.of h) (DrAll.dp hs (by simpa [PyData.canLay0] using c))
  | _, _, .tup h hs, c => .tup h (DrAll.dp hs (by simpa [PyData.canLay0] using c))
  | _, _, .dct _ _, c => by simp [PyData.canLay0] at c
theorem DrAll.dp : ∀ {vs : List V} {ds : List D}, DrAll K H vs ds → PyData.canLayAll0 ds = true → DpAll K H vs ds
  | _, _, .nil, _ => .nil
  | _, _, .cons h hs, c => by
    have c' := c
    simp only [PyData.canLayAll0, Bool.and_eq_true] at c'
    exact .cons (Dr.dp h c'.1) (DrAll.dp hs c'.2)
end
theorem shaped_lay {d : D} (h : SeqAt.shaped d = true) : d.canLay0 = true := SeqAt.canLay_of_shaped h
theorem DrAll.nil_iff {xs : List V} {ds : List D} (h : DrAll K H xs ds) : xs = [] ↔ ds = [] := by
  cases h with
  | nil => simp
  | cons _ _ => simp
theorem same_new {H : Hp} {p : Addr} {o : HO} (hp : H p = none) : Same H (upd H p o) := fun b u e => by rw [upd_ne (ne_of_none e hp)]; exact e
/-- what a new object at p gives -/
theorem Aft.new {g : Gen} {p : Addr} {o : HO} (sub : Same H0 H) (gen : GenAt S.gm g H0 H) (tabs : LamX.Tabs S.T H) (hp : H p = none) (ht : ∀ ps, o ≠ .tbl ps) : Aft S g H0 H (upd H0 p o) (upd H p o) := by
  have sm : Same H (upd H p o) := fun b u e => by rw [upd_ne (ne_of_none e hp)]; exact e
  refine ⟨Stp.new sub hp ht, same_upd sub hp, fun q hq => ?_, tabs.ext sm⟩
  obtain ⟨gl, e1, e2⟩ := gen q hq
  exact ⟨gl, sm _ _ e1, same_new (sub.free hp) _ _ e2⟩
theorem Aft.same {g : Gen} (sub : Same H0 H) (gen : GenAt S.gm g H0 H) (tabs : LamX.Tabs S.T H) : Aft S g H0 H H0 H := ⟨Stp.refl _ _ _, sub, gen, tabs⟩
end

end PD
set_option Elab.async false
set_option linter.all false
set_option maxRecDepth 100000
set_option maxHeartbeats 4000000
set_option autoImplicit false
namespace PD
open PySem PySem.Spec L2 PyProof.Rows
theorem tuple_mulS (l : Addr) (items : Array Value) (n : Nat) (dd : Option Addr) (sl : Array (Option Value)) (x : Int) (u : Tok) (c0 : (decide (x < -(2 ^ 63)) || decide (x ≥ 2 ^ 63)) = false) (c1 : (items.isEmpty || x == 1) = true) :
    Meets (Builtin.«tuple.__mul__» ⟨[.ref l, .int x u], []⟩) (fun _ R s => s.heap.get? l = some { cls := .type "tuple", dict := dd, data := .seq items n, slots := sl } ∧ R (.ok (.ret (Value.ref l))) s) :=
  .of_wp fun prog w A R s h => by
    obtain ⟨hp, g, d, tk, os⟩ := s
    obtain ⟨hl, h⟩ := h
    have f1 := AutoSeq1.idx_int
    wp_walk using wpAny_loadPart' hl
    repeat (first
      | (refine wpAny_ite_false (decide_eq_false (by rw [c0]; exact Bool.false_ne_true)) ?_; wp_walk using wpAny_loadPart' hl)
      | (refine wpAny_ite_true (decide_eq_true c1) ?_; wp_walk using wpAny_loadPart' hl))
    exact ⟨_, rfl, h⟩
theorem tuple_mul0 (l : Addr) (items : Array Value) (n : Nat) (dd : Option Addr) (sl : Array (Option Value)) (x : Int) (u : Tok) (c0 : (decide (x < -(2 ^ 63)) || decide (x ≥ 2 ^ 63)) = false) (c1 : (items.isEmpty || x == 1) = false) (c2 : (decide (x ≤ 0) || items.isEmpty) = true) :
    Meets (Builtin.«tuple.__mul__» ⟨[.ref l, .int x u], []⟩) (fun _ R s => s.heap.get? l = some { cls := .type "tuple", dict := dd, data := .seq items n, slots := sl } ∧
      R (.ok (.ret (Value.ref s.heap.objs.size))) { s with heap := s.heap.push { cls := Value.type "tuple", data := Data.seq #[] }, toks := s.toks }) :=
  .of_wp fun prog w A R s h => by
    obtain ⟨hp, g, d, tk, os⟩ := s
    obtain ⟨hl, h⟩ := h
    have f1 := AutoSeq1.idx_int
    wp_walk using wpAny_loadPart' hl
    repeat (first
      | (refine wpAny_ite_false (decide_eq_false (by rw [c0]; exact Bool.false_ne_true)) ?_; wp_walk using wpAny_loadPart' hl)
      | (refine wpAny_ite_false (decide_eq_false (by rw [c1]; exact Bool.false_ne_true)) ?_; wp_walk using wpAny_loadPart' hl)
      | (refine wpAny_ite_true (decide_eq_true c2) ?_; wp_walk using wpAny_loadPart' hl))
    exact ⟨_, rfl, h⟩
/-- a tuple, as often as k says, where the model hands out the very one, or an empty one -/
def rRepS (K : PySem.W.Frag) : R2 := fun x y H Q => ∃ l k xs, x = .ref l ∧ y = .int k ∧ SqT K H l xs ∧ (-(2 ^ 63) ≤ k ∧ k < 2 ^ 63) ∧ (((xs = [] ∨ k = 1) ∧ Q (.ref l) H) ∨ (xs ≠ [] ∧ k ≤ 0 ∧ ∀ p, H p = none → Q (.ref p) (upd H p (.tup []))))
section
variable {X : Cx}
theorem op_repS : OpR X (binaryOp .Mult) (rRepS X.K) := by
  intro pins s σ H x y v u Q I rx ry h
  obtain ⟨l, k, xs, rfl, rfl, hT, hk, q⟩ := h
  cases rx
  obtain ⟨t, rfl⟩ := ry
  obtain ⟨its, r, ⟨⟨cls, dd, data, sl⟩, ho, hc, n, hd⟩, hs⟩ := I.tuple hT
  simp only at hc hd
  subst hc hd
  have hle : its.length = xs.length := r.length.symm
  have c0 : (decide (k < -(2 ^ 63)) || decide (k ≥ 2 ^ 63)) = false := by
    rw [decide_eq_false (by omega), decide_eq_false (by omega)] <;> rfl
  rcases q with ⟨hc, q⟩ | ⟨hne, h0, q⟩
  · have c1 : (its.toArray.isEmpty || k == 1) = true := by
      rcases hc with rfl | rfl
      · have : its = [] := List.eq_nil_of_length_eq_zero hle
        subst this
        rfl
      · simp
    refine wpAny_binaryOp_repeat_ref (T := "tuple") (U := "int") (by decide) ⟨_, ho, rfl⟩ (fun s' => typeIs_int s' k t) noFill_tuple_mul F.fills_int_mul F.slot_int_rmul repeat_tuple F.slot_int_index.lookup
      (call_meets F.slot_int_rmul (typeIs_int s k t) F.entry_int_rmul (F.args_int_rmul_2 _ _) (int_rmul_tuple k t l its.toArray n dd sl)
        ⟨ho, rfl, ⟨_, ho, rfl⟩, call_meets F.slot_tuple_mul ⟨_, ho, rfl⟩ F.entry_tuple_mul (F.args_tuple_mul_2 _ _) (tuple_mulS l its.toArray n dd sl k t c0 c1) ⟨ho, ?_⟩⟩)
    exact ⟨.ref l, H, I, rfl, q⟩
  · have hi : its.toArray.isEmpty = false := by
      cases its with
      | nil => exact absurd (List.eq_nil_of_length_eq_zero hle.symm) hne
      | cons a b => rfl
    have c1 : (its.toArray.isEmpty || k == 1) = false := by
      rw [hi, Bool.false_or]
      exact beq_eq_false_iff_ne.mpr (by omega)
    have c2 : (decide (k ≤ 0) || its.toArray.isEmpty) = true := by rw [decide_eq_true h0] <;> rfl
    refine wpAny_binaryOp_repeat_ref (T := "tuple") (U := "int") (by decide) ⟨_, ho, rfl⟩ (fun s' => typeIs_int s' k t) noFill_tuple_mul F.fills_int_mul F.slot_int_rmul repeat_tuple F.slot_int_index.lookup
      (call_meets F.slot_int_rmul (typeIs_int s k t) F.entry_int_rmul (F.args_int_rmul_2 _ _) (int_rmul_tuple k t l its.toArray n dd sl)
        ⟨ho, rfl, ⟨_, ho, rfl⟩, call_meets F.slot_tuple_mul ⟨_, ho, rfl⟩ F.entry_tuple_mul (F.args_tuple_mul_2 _ _) (tuple_mul0 l its.toArray n dd sl k t c0 c1 c2) ⟨ho, ?_⟩⟩)
    refine ⟨.ref s.heap.objs.size, _, I.laid (t' := s.toks) (o := .tup []) (fun b ob q => Heap.get?_push_of_some _ q) (Nat.le_refl _) ?_, rfl, q _ (I.hok.fresh (Nat.le_refl _))⟩
    exact ⟨by simp, [], .nil, IsTup.new _ _⟩
end
/-- in, over data of any depth -/
def rInX (K : PySem.W.Frag) (neg : Bool) : R2 := fun x y H Q => ∃ d ds, Dp K H x d ∧ (Dp K H y (.list ds) ∨ Dp K H y (.tuple ds)) ∧ SeqAt.shaped d = true ∧ PyData.canLayAll0 ds = true ∧ Q (.bl (if neg then !(ds.any fun z => PyData.eqv z d) else ds.any fun z => PyData.eqv z d)) H
theorem op_inX {X : Cx} (hu : X.A.units + 65 < cLine) : OpR X (compareOp .In) (rInX X.K false) := by
  intro pins s σ H x y v u Q I rx ry h
  obtain ⟨d, ds, hd, he, sd, se, q⟩ := h
  obtain ⟨as, r1⟩ := Dp.reads I d x v hd rx
  rcases he with he | he
  · obtain ⟨bs, r2⟩ := Dp.reads I (.list ds) y u he ry
    exact SeqAt.in_list_reads r2 r1 se (SeqAt.canLay_of_shaped sd) (room_in_shaped sd hu) ⟨.bl _, H, I, rfl, q⟩
  · obtain ⟨bs, r2⟩ := Dp.reads I (.tuple ds) y u he ry
    exact SeqAt.in_tuple_reads r2 r1 se (SeqAt.canLay_of_shaped sd) (room_in_shaped sd hu) ⟨.bl _, H, I, rfl, q⟩
theorem op_notInX {X : Cx} (hu : X.A.units + 65 < cLine) : OpR X (compareOp .NotIn) (rInX X.K true) := by
  intro pins s σ H x y v u Q I rx ry h
  obtain ⟨d, ds, hd, he, sd, se, q⟩ := h
  obtain ⟨as, r1⟩ := Dp.reads I d x v hd rx
  rcases he with he | he
  · obtain ⟨bs, r2⟩ := Dp.reads I (.list ds) y u he ry
    exact SeqAt.notIn_list_reads r2 r1 se (SeqAt.canLay_of_shaped sd) (room_in_shaped sd hu) ⟨.bl _, H, I, rfl, q⟩
  · obtain ⟨bs, r2⟩ := Dp.reads I (.tuple ds) y u he ry
    exact SeqAt.notIn_tuple_reads r2 r1 se (SeqAt.canLay_of_shaped sd) (room_in_shaped sd hu) ⟨.bl _, H, I, rfl, q⟩
end PD
set_option Elab.async false
set_option linter.all false
set_option maxRecDepth 100000
set_option autoImplicit false
namespace PD
open PySem PySem.Spec L2

section
variable {S : Sig} {H0 H : Hp} {u : V} {w : Vl} {ds : List D}
theorem VR.tup (r : VR S H0 H u w) (e : asD w = some (.tuple ds)) : Dr S.K H0 u (.tuple ds) := by
  cases w with
  | d t => cases e; exact r
  | gn => cases e
  | sc _ => cases e
  | co _ => cases e
  | bo t => cases e
theorem VR.lst (sub : Same H0 H) (r : VR S H0 H u w) (e : asD w = some (.list ds)) : ∃ a xs, u = .ref a ∧ H a = some (.lst xs) ∧ DrAll S.K H0 xs ds := by
  cases w with
  | d t =>
    cases e
    obtain ⟨c, zs, e4, e5, e6⟩ := Dr.lst_inv r
    exact ⟨c, zs, e4, sub _ _ e5, e6⟩
  | gn => cases e
  | sc _ => cases e
  | co _ => cases e
  | bo t =>
    cases e
    exact r
end
theorem bindO {a b : Vl} {α : Type} {f : D → D → Option α} {z : α} (e : ((asD a).bind fun x => (asD b).bind fun y => f x y) = some z) : ∃ x y, asD a = some x ∧ asD b = some y ∧ f x y = some z := by
  cases ea : asD a with
  | none => rw [ea] at e; cases e
  | some x =>
    cases eb : asD b with
    | none => rw [ea, eb] at e; cases e
    | some y => rw [ea, eb] at e; exact ⟨x, y, rfl, rfl, e⟩
theorem ifO {c : Prop} [Decidable c] {α : Type} {x z : α} (e : (if c then some x else none) = some z) : c ∧ x = z := by
  split at e
  · exact ⟨by assumption, Option.some.inj e⟩
  · cases e
/-- ints alone -/
theorem op2_int {S : Sig} {F : D → D → Option D} {r : R2} (C : Int → Int → Prop) (f : Int → Int → Int)
    (hF : ∀ a b z, F a b = some z → ∃ i j, a = .int i ∧ b = .int j ∧ C i j ∧ z = .int (f i j)) (hr : ∀ i j H Q, C i j → Q (.int (f i j)) H → r (.int i) (.int j) H Q) : Op2 S r (fun a b => (asD a).bind fun x => (asD b).bind fun y => F x y) := by
  intro g x y a b z H0 H Q sub gen tabs ra rb e q
  obtain ⟨da, db, ea, eb, e⟩ := bindO e
  obtain ⟨i, j, rfl, rfl, hc, rfl⟩ := hF da db z e
  obtain rfl := (ra.full sub ea).int_inv
  obtain rfl := (rb.full sub eb).int_inv
  exact hr i j H Q hc (q _ _ _ (Aft.same sub gen tabs) (.int _))
theorem op2_add {S : Sig} : Op2 S (fun x y H Q => (rI0 fun i j => .int (i + j)) x y H Q ∨ (∃ i j, x = .str i ∧ y = .str j ∧ i.length + j.length ≤ sizeLine ∧ Q (.str (i ++ j)) H) ∨ rCat x y H Q ∨ rCatA S.K x y H Q) (binD .Add) := by
  intro g x y a b z H0 H Q sub gen tabs ra rb e q
  obtain ⟨da, db, ea, eb, e⟩ := bindO e
  have e : addD da db = some z := e
  unfold addD at e
  split at e
  · obtain rfl := (ra.full sub ea).int_inv
    obtain rfl := (rb.full sub eb).int_inv
    cases e
    exact .inl ⟨_, _, rfl, rfl, q _ _ _ (Aft.same sub gen tabs) (.int _)⟩
  · obtain rfl := (ra.full sub ea).str_inv
    obtain rfl := (rb.full sub eb).str_inv
    obtain ⟨hl, rfl⟩ := ifO e
    exact .inr (.inl ⟨_, _, rfl, rfl, hl, q _ _ _ (Aft.same sub gen tabs) (.str _)⟩)
  · obtain ⟨hl, rfl⟩ := ifO e
    obtain ⟨p, xs, rfl, h1, h2⟩ := ra.lst sub ea
    obtain ⟨p', ys, rfl, h3, h4⟩ := rb.lst sub eb
    refine .inr (.inr (.inl ⟨p, p', xs, ys, rfl, rfl, h1, h3, by rw [h2.length, h4.length]; exact hl, fun l hp => ?_⟩))
    have s0 : Same H0 (upd H0 l (.lst (xs ++ ys))) := same_new (sub.free hp)
    exact q _ _ _ (Aft.new sub gen tabs hp (fun ps z => by cases z)) (.lst upd_same ((h2.append h4).same s0))
  · obtain ⟨hl, rfl⟩ := ifO e
    have ga := ra.tup ea
    have gb := rb.tup eb
    obtain ⟨p, xs, rfl, h1, h2⟩ := Dr.tup_inv ga
    obtain ⟨p', ys, rfl, h3, h4⟩ := Dr.tup_inv gb
    refine .inr (.inr (.inr ⟨p, p', xs, ys, rfl, rfl, sqT_same sub h1, sqT_same sub h3, by rw [h2.length, h4.length]; exact hl, fun z => ?_, fun _ z => ?_, fun _ _ l hp => ?_⟩))
    · have z' := h2.nil_iff.mp z
      subst z'
      exact q _ _ _ (Aft.same sub gen tabs) gb
    · have z' := h4.nil_iff.mp z
      subst z'
      rw [List.append_nil] at q
      exact q _ _ _ (Aft.same sub gen tabs) ga
    · have s0 : Same H0 (upd H0 l (.tup (xs ++ ys))) := same_new (sub.free hp)
      exact q _ _ _ (Aft.new sub gen tabs hp (fun ps z => by cases z)) (.tup (SqT.of upd_same) ((h2.append h4).same s0))
  · cases e
theorem op2_sub {S : Sig} : Op2 S (rI0 fun i j => .int (i - j)) (binD .Sub) := op2_int (fun _ _ => True) (· - ·) (fun a b z e => by
  have e : subD a b = some z := e
  unfold subD at e
  split at e
  · cases e; exact ⟨_, _, rfl, rfl, trivial, rfl⟩
  · cases e) fun i j H Q _ q => ⟨i, j, rfl, rfl, q⟩
theorem op2_mod {S : Sig} : Op2 S (rI (fun _ j => 0 < j) fun i j => .int (i % j)) (binD .Mod) := op2_int (fun _ j => 0 < j) (· % ·) (fun a b z e => by
  have e : modD a b = some z := e
  unfold modD at e
  split at e
  · obtain ⟨h, rfl⟩ := ifO e; exact ⟨_, _, rfl, rfl, h, rfl⟩
  · cases e) fun i j H Q h q => ⟨i, j, rfl, rfl, h, q⟩
theorem op2_fdiv {S : Sig} : Op2 S (rI CDiv fun i j => .int (i / j)) (binD .FloorDiv) := op2_int CDiv (· / ·) (fun a b z e => by
  have e : fdivD a b = some z := e
  unfold fdivD at e
  split at e
  · obtain ⟨h, rfl⟩ := ifO e; exact ⟨_, _, rfl, rfl, h, rfl⟩
  · cases e) fun i j H Q h q => ⟨i, j, rfl, rfl, h, q⟩
theorem op2_pow {S : Sig} : Op2 S (rI CPow fun i j => .int (i ^ j.toNat)) (binD .Pow) := op2_int CPow (fun i j => i ^ j.toNat) (fun a b z e => by
  have e : powD a b = some z := e
  unfold powD at e
  split at e
  · obtain ⟨h, rfl⟩ := ifO e; exact ⟨_, _, rfl, rfl, h, rfl⟩
  · cases e) fun i j H Q h q => ⟨i, j, rfl, rfl, h, q⟩
theorem mul_tup {S : Sig} {g : Gen} {H0 H : Hp} {Q : VK} {p : Addr} {vs : List V} {i : List D} {j : Int} (sub : Same H0 H) (gen : GenAt S.gm g H0 H) (tabs : LamX.Tabs S.T H) (k1 : SqT S.K H0 p vs) (k2 : DrAll S.K H0 vs i) (hh : -1000 ≤ j ∧ j ≤ 1000 ∧ i.length ≤ 1000)
    (q : ∀ v H0' H', Aft S g H0 H H0' H' → Dr S.K H0' v (.tuple (List.replicate j.toNat i).flatten) → Q v H') : rRepT S.K (.ref p) (.int j) H Q ∨ rRepS S.K (.ref p) (.int j) H Q := by
  obtain ⟨h1, h2, h3⟩ := hh
  have hl := k2.length
  by_cases c : vs = []
  · subst c
    cases k2
    refine .inr ⟨p, _, [], rfl, rfl, sqT_same sub k1, by omega, .inl ⟨.inl rfl, ?_⟩⟩
    refine q _ _ _ (Aft.same sub gen tabs) ?_
    have : (List.replicate j.toNat ([] : List D)).flatten = [] := by simp
    rw [this]
    exact .tup k1 .nil
  · by_cases c1 : j = 1
    · subst c1
      refine .inr ⟨p, _, vs, rfl, rfl, sqT_same sub k1, by omega, .inl ⟨.inr rfl, ?_⟩⟩
      refine q _ _ _ (Aft.same sub gen tabs) ?_
      have : ∀ i : List D, (List.replicate (1 : Int).toNat i).flatten = i := fun i => by simp
      rw [this]
      exact .tup k1 k2
    · by_cases c0 : j ≤ 0
      · refine .inr ⟨p, _, vs, rfl, rfl, sqT_same sub k1, by omega, .inr ⟨c, c0, fun l hp => ?_⟩⟩
        refine q _ _ _ (Aft.new sub gen tabs hp (fun ps z => by cases z)) ?_
        have : ∀ i : List D, (List.replicate j.toNat i).flatten = [] := fun i => by rw [show j.toNat = 0 by omega]; rfl
        rw [this]
        exact .tup (SqT.of upd_same) .nil
      · refine .inl ⟨p, _, vs, rfl, rfl, sqT_same sub k1, c, by omega, h2, by omega, fun l hp => ?_⟩
        exact q _ _ _ (Aft.new sub gen tabs hp (fun ps z => by cases z)) (.tup (SqT.of upd_same) ((k2.rep _).same (same_new (sub.free hp))))
theorem op2_mul {S : Sig} : Op2 S (fun x y H Q => (rI CMul fun i j => .int (i * j)) x y H Q ∨ ((rRepT S.K x y H Q ∨ rRepS S.K x y H Q) ∨ rRep x y H Q)) (binD .Mult) := by
  intro g x y a b z H0 H Q sub gen tabs ra rb e q
  obtain ⟨da, db, ea, eb, e⟩ := bindO e
  have e : mulD da db = some z := e
  unfold mulD at e
  split at e
  · obtain ⟨hc, rfl⟩ := ifO e
    obtain rfl := (ra.full sub ea).int_inv
    obtain rfl := (rb.full sub eb).int_inv
    exact .inl ⟨_, _, rfl, rfl, hc, q _ _ _ (Aft.same sub gen tabs) (.int _)⟩
  · obtain ⟨⟨h1, h2, h3⟩, rfl⟩ := ifO e
    obtain rfl := (rb.full sub eb).int_inv
    obtain ⟨p, vs, rfl, k1, k2⟩ := Dr.tup_inv (ra.tup ea)
    exact .inr (.inl (mul_tup sub gen tabs k1 k2 ⟨h1, h2, h3⟩ q))
  · obtain ⟨⟨h1, h2, h3⟩, rfl⟩ := ifO e
    obtain rfl := (rb.full sub eb).int_inv
    obtain ⟨p, vs, rfl, k1, k2⟩ := ra.lst sub ea
    have hl := k2.length
    refine .inr (.inr ⟨p, _, vs, rfl, rfl, k1, by omega, by omega, ?_, fun l hp => ?_⟩)
    · rw [hl, sizeLine_eq]
      exact Nat.le_trans (Nat.mul_le_mul h3 (Int.toNat_le.mpr h2)) (by decide : 1000 * 1000 ≤ 16777216)
    · exact q _ _ _ (Aft.new sub gen tabs hp (fun ps z => by cases z)) (.lst upd_same ((k2.rep _).same (same_new (sub.free hp))))
  · cases e
/-- a op b -/
def rBin (S : Sig) : Operator → R2
  | .Add => fun x y H Q => (rI0 fun i j => .int (i + j)) x y H Q ∨ (∃ i j, x = .str i ∧ y = .str j ∧ i.length + j.length ≤ sizeLine ∧ Q (.str (i ++ j)) H) ∨ rCat x y H Q ∨ rCatA S.K x y H Q
  | .Sub => rI0 fun i j => .int (i - j)
  | .Mult => fun x y H Q => (rI CMul fun i j => .int (i * j)) x y H Q ∨ ((rRepT S.K x y H Q ∨ rRepS S.K x y H Q) ∨ rRep x y H Q)
  | .Mod => rI (fun _ j => 0 < j) fun i j => .int (i % j)
  | .FloorDiv => rI CDiv fun i j => .int (i / j)
  | .Pow => rI CPow fun i j => .int (i ^ j.toNat)
  | _ => fun _ _ _ _ => False
theorem opR_bin {X : Cx} {S : Sig} (hK : X.K = S.K) (op : Operator) (h : opOk op = true) : OpR X (binaryOp op) (rBin S op) := by
  obtain ⟨⟨K, w⟩, gm, T, cl, at_⟩ := S
  have hK : X.K = K := hK
  subst hK
  cases op with
  | Add => exact op_add.or (op_add_str.or (op_cat.or op_catA))
  | Sub => exact op_sub
  | Mult => exact op_mul.or ((op_repT.or op_repS).or op_rep)
  | Mod => exact op_mod
  | FloorDiv => exact op_fdiv
  | Pow => exact op_pow
  | _ => cases h
theorem op2_bin {S : Sig} (op : Operator) (h : opOk op = true) : Op2 S (rBin S op) (binD op) := by
  cases op with
  | Add => exact op2_add
  | Sub => exact op2_sub
  | Mult => exact op2_mul
  | Mod => exact op2_mod
  | FloorDiv => exact op2_fdiv
  | Pow => exact op2_pow
  | _ => cases h
end PD
set_option Elab.async false
set_option linter.all false
set_option maxRecDepth 100000
set_option autoImplicit false
namespace PD
open PySem PySem.Spec L2

/-- a comparison: from the data of both to its answer -/
def Op2B (S : Sig) (r : R2) (F : Vl → Vl → Option Bool) : Prop :=
  ∀ (x y : V) (a b : Vl) (k : Bool) (H0 H : Hp) (Q : VK), Same H0 H → VR S H0 H x a → VR S H0 H y b → F a b = some k → Q (.bl k) H → r x y H Q
theorem op2B {S : Sig} {r : R2} {F : D → D → Option Bool} (h : ∀ x y a b k H Q, Dr S.K H x a → Dr S.K H y b → F a b = some k → Q (.bl k) H → r x y H Q) : Op2B S r (fun a b => (asD a).bind fun x => (asD b).bind fun y => F x y) := by
  intro x y a b k H0 H Q sub ra rb e q
  obtain ⟨da, db, ea, eb, e⟩ := bindO e
  exact h x y da db k H Q (ra.full sub ea) (rb.full sub eb) e q
theorem flatV_of {K : KW} {H : Hp} {x : V} {d : D} (r : Dr K H x d) (h : isFlat d = true) : flatV x = true := by
  cases r <;> first | rfl | (exfalso; simp [isFlat] at h; done)
theorem eqV_of {K : KW} {H : Hp} {x y : V} {d e : D} (r : Dr K H x d) (r' : Dr K H y e) (h : isFlat d = true) (h' : isFlat e = true) : eqV x y = PyData.eqv d e := by
  cases r <;> first | (exfalso; simp [isFlat] at h; done) | (cases r' <;> first | (exfalso; simp [isFlat] at h'; done) | simp [eqV, PyData.eqv])
theorem flats_of {K : KW} {H : Hp} : ∀ {xs : List V} {ds : List D}, DrAll K H xs ds → ds.all isFlat = true → xs.all flatV = true
  | _, _, .nil, _ => rfl
  | _, _, .cons r rs, h => by
    rw [List.all_cons, Bool.and_eq_true] at h ⊢
    exact ⟨flatV_of r h.1, flats_of rs h.2⟩
theorem inV_of {K : KW} {H : Hp} {x : V} {d : D} (r : Dr K H x d) (h : isFlat d = true) : ∀ {xs : List V} {ds : List D}, DrAll K H xs ds → ds.all isFlat = true → inV x xs = inD d ds
  | _, _, .nil, _ => rfl
  | y :: xs, e :: ds, .cons r1 rs, h1 => by
    rw [List.all_cons, Bool.and_eq_true] at h1
    unfold inV inD
    rw [List.any_cons, eqV_of r1 r h1.1 h]
    have := inV_of r h rs h1.2
    unfold inV at this
    rw [this]
/-! ### dicts of whole numbers and texts -/
theorem eqv_key (a b : Key) : PyData.eqv (keyD a) (keyD b) = decide (a = b) := by
  cases a <;> cases b <;> (rw [Bool.eq_iff_iff]; simp [keyD, PyData.eqv])
theorem isKey_inv {d : D} (h : isKeyD d = true) : ∃ k, d = keyD k := by
  cases d with
  | int i => exact ⟨.inl i, rfl⟩
  | str x => exact ⟨.inr x, rfl⟩
  | _ => cases h
theorem dr_key {K : KW} {H : Hp} {x : V} {k : Key} (r : Dr K H x (keyD k)) : x = kV k := by
  cases k with
  | inl i => exact r.int_inv
  | inr x => exact r.str_inv
theorem dFind_of {K : KW} {H : Hp} (k : Key) : ∀ {kvs : List (Key × V)} {ds : List D}, DrAll K H (kvs.map (·.2)) ds →
    (valV kvs k = none ∧ dFind (keyD k) ((kvs.map fun q => keyD q.1).zip ds) = none) ∨ ∃ v d, valV kvs k = some v ∧ dFind (keyD k) ((kvs.map fun q => keyD q.1).zip ds) = some d ∧ Dr K H v d
  | [], _, .nil => .inl ⟨rfl, rfl⟩
  | q :: kvs, d :: ds, .cons h hs => by
    by_cases e : q.1 = k
    · refine .inr ⟨q.2, d, valV_pos e, ?_, h⟩
      show (if PyData.eqv (keyD q.1) (keyD k) = true then some d else _) = _
      rw [eqv_key, decide_eq_true e, if_pos rfl]
    · have e2 : dFind (keyD k) (((q :: kvs).map fun q => keyD q.1).zip (d :: ds)) = dFind (keyD k) ((kvs.map fun q => keyD q.1).zip ds) := by
        show (if PyData.eqv (keyD q.1) (keyD k) = true then some d else _) = _
        rw [eqv_key, decide_eq_false e, if_neg (by simp)]
        rfl
      rw [e2, valV_neg e]
      exact dFind_of k hs
def negB (neg b : Bool) : Bool := if neg then !b else b
def rDIn (neg : Bool) : R2 := fun x y H Q => ∃ a o, y = V.ref a ∧ DGet H a x o ∧ Q (.bl (negB neg o.isSome)) H
theorem op_din {X : Cx} (hu : X.A.units + 1 < cLine) : OpR X (compareOp .In) (rDIn false) := by
  intro pins s σ H x y v u Q I rx ry h
  obtain ⟨a, o, rfl, g, q⟩ := h
  cases (show u = Value.ref a from ry)
  exact d_in hu I g rx fun s' I' => ⟨.bl o.isSome, H, I', rfl, q⟩
theorem op_dnotIn {X : Cx} (hu : X.A.units + 1 < cLine) : OpR X (compareOp .NotIn) (rDIn true) := by
  intro pins s σ H x y v u Q I rx ry h
  obtain ⟨a, o, rfl, g, q⟩ := h
  cases (show u = Value.ref a from ry)
  exact d_notIn hu I g rx fun s' I' => ⟨.bl (!o.isSome), H, I', rfl, q⟩
def rDIx : R2 := fun x y H Q => ∃ a v, x = V.ref a ∧ DGet H a y (some v) ∧ Q v H
theorem ix_dict {X : Cx} (hu : X.A.units + 1 < cLine) : IxR X rDIx := by
  intro value slice pins s σ H x y v u Q I rx ry h hs
  obtain ⟨a, w, rfl, g, q⟩ := h
  cases (show v = Value.ref a from rx)
  exact PyProof.Rows.tail_any (dict_typeIs I g) PySem.F.slot_dict_getitem.lookup (d_getItem hu I g ry fun w' s' I' r => ⟨w, H, I', r, q⟩) hs
def rMem (K : PySem.W.Frag) (neg : Bool) : R2 := fun x y H Q => rIn K neg x y H Q ∨ (rDIn neg x y H Q ∨ rInX K neg x y H Q)
theorem inD_any (x : D) : ∀ ys : List D, inD x ys = ys.any fun z => PyData.eqv z x
  | [] => rfl
  | y :: ys => by rw [List.any_cons, ← inD_any x ys]; rfl
theorem op2_mem {S : Sig} (neg : Bool) : Op2B S (rMem S.K neg) (fun a b => (asD a).bind fun x => (asD b).bind fun y => (memD x y).map fun k => if neg then !k else k) := op2B fun x y a b k H Q ra rb e q => by
  cases e1 : memD a b with
  | none => rw [e1] at e; cases e
  | some k1 =>
    rw [e1] at e
    have e2 : (if neg then !k1 else k1) = k := Option.some.inj e
    subst e2
    unfold memD at e1
    split at e1
    · rename_i kvs
      obtain ⟨hc, rfl⟩ := ifO e1
      rw [Bool.and_eq_true] at hc
      obtain ⟨kk, rfl⟩ := isKey_inv hc.1
      have ex := dr_key ra
      subst ex
      cases rb with
      | dct h1 h2 =>
        refine .inr (.inl ⟨_, _, rfl, .inl ⟨_, kk, .inr ⟨_, h1⟩, rfl, rfl⟩, ?_⟩)
        rcases dFind_of kk h2 with ⟨f1, f2⟩ | ⟨v, d, f1, f2, _⟩
        · rw [f1]; rw [f2] at q; exact q
        · rw [f1]; rw [f2] at q; exact q
    · split at e1
      · rename_i hc
        cases e1
        rw [Bool.and_eq_true] at hc
        obtain ⟨p, xs, rfl, h1, h2⟩ := rb.lst_inv
        refine .inl ⟨p, xs, rfl, .inl (SqL.of h1), flatV_of ra hc.1, flats_of h2 hc.2, ?_⟩
        rw [inV_of ra hc.1 h2 hc.2]; exact q
      · obtain ⟨hc, rfl⟩ := ifO e1
        rw [Bool.and_eq_true] at hc
        refine .inr (.inr ⟨_, _, ra.dp (shaped_lay hc.1), .inl (rb.dp hc.2), hc.1, hc.2, ?_⟩)
        rw [← inD_any]; exact q
    · split at e1
      · rename_i hc
        cases e1
        rw [Bool.and_eq_true] at hc
        obtain ⟨p, xs, rfl, h1, h2⟩ := rb.tup_inv
        refine .inl ⟨p, xs, rfl, .inr h1, flatV_of ra hc.1, flats_of h2 hc.2, ?_⟩
        rw [inV_of ra hc.1 h2 hc.2]; exact q
      · obtain ⟨hc, rfl⟩ := ifO e1
        rw [Bool.and_eq_true] at hc
        refine .inr (.inr ⟨_, _, ra.dp (shaped_lay hc.1), .inr (rb.dp hc.2), hc.1, hc.2, ?_⟩)
        rw [← inD_any]; exact q
    · cases e1
def rIsA : R2 := fun x y H Q => (y = .non ∧ Q (.bl (decide (x = .non))) H) ∨ rIsB x y H Q
def rIsNotA : R2 := fun x y H Q => (y = .non ∧ Q (.bl (!decide (x = .non))) H) ∨ rNotB x y H Q

def isN : D → Bool
  | .none => true
  | _ => false
theorem isD_inv {a b : D} {k : Bool} (e : isD a b = some k) : (b = .none ∧ k = isN a) ∨ ∃ p q, a = .bool p ∧ b = .bool q ∧ k = decide (p = q) := by
  cases b with
  | none => cases a <;> (cases e; exact .inl ⟨rfl, rfl⟩)
  | bool q => cases a <;> first | (cases e; done) | (cases e; exact .inr ⟨_, _, rfl, rfl, rfl⟩)
  | _ => cases a <;> cases e
theorem isNon_of {K : KW} {H : Hp} {x : V} {d : D} (r : Dr K H x d) : decide (x = .non) = isN d := by
  cases r <;> simp [isN]
def rNilT (K : PySem.W.Frag) : R2 := fun x y H Q => ∃ a b xs, x = V.ref a ∧ y = V.ref b ∧ SqT K H a xs ∧ SqT K H b [] ∧ Q (.bl xs.isEmpty) H
theorem op_nilT {X : Cx} (hu : X.A.units < cLine) : OpR X (compareOp .Eq) (rNilT X.K) := by
  intro pins s σ H x y v u Q I rx ry h
  obtain ⟨a, b, xs, rfl, rfl, ha, hb, q⟩ := h
  cases (show v = Value.ref a from rx)
  cases (show u = Value.ref b from ry)
  obtain ⟨us, r1, p1, _⟩ := I.tuple ha
  obtain ⟨ws, r2, p2, _⟩ := I.tuple hb
  cases r2
  have sz : us.length = xs.length := r1.length.symm
  refine SeqAt.eq_tupleAt (e := fun _ => true) p1 p2 hu (fun j h1 h2 => absurd h2 (by simp)) ⟨.bl xs.isEmpty, H, I, ?_, q⟩
  cases xs with
  | nil =>
    cases r1
    rfl
  | cons y ys =>
    cases us with
    | nil => cases sz
    | cons z zs => rfl
def rCmp (S : Sig) : CmpOp → R2
  | .Eq => fun x y H Q => rEqD S.K x y H Q ∨ rNilT S.K x y H Q
  | .NotEq => rNeD S.K
  | .Lt => rI0 fun i j => .bl (decide (i < j))
  | .LtE => rI0 fun i j => .bl (decide (i ≤ j))
  | .Gt => rI0 fun i j => .bl (decide (j < i))
  | .GtE => rI0 fun i j => .bl (decide (j ≤ i))
  | .In => rMem S.K false
  | .NotIn => rMem S.K true
  | .Is => rIsA
  | .IsNot => rIsNotA
theorem opR_cmp {X : Cx} {S : Sig} (hK : X.K = S.K) (hu : X.A.units + 65 < cLine) (op : CmpOp) : OpR X (compareOp op) (rCmp S op) := by
  obtain ⟨⟨K, w⟩, gm, T, cl, at_⟩ := S
  have hK : X.K = K := hK
  subst hK
  cases op with
  | Eq => exact (op_eqD (by omega)).or (op_nilT (by omega))
  | NotEq => exact op_neD (by omega)
  | Lt => exact op_lt
  | LtE => exact op_le
  | Gt => exact op_gt
  | GtE => exact op_ge
  | In => exact op_in_seq.or ((op_din (by omega)).or (op_inX hu))
  | NotIn => exact op_notIn_seq.or ((op_dnotIn (by omega)).or (op_notInX hu))
  | Is => exact op_isN.or op_isBl
  | IsNot => exact op_notN.or op_notBl
theorem op2_cmp {S : Sig} (op : CmpOp) : Op2B S (rCmp S op) (cmpD op) := by
  cases op with
  | Eq =>
    exact op2B fun x y a b k H Q ra rb e q => by
      have e : eqE a b = some k := e
      unfold eqE at e
      split at e
      · rename_i k' e1
        cases e
        obtain ⟨hc, rfl⟩ := ifO (show (if (SeqAt.shaped a && SeqAt.shaped b) = true then some (PyData.eqv a b) else none) = some k from e1)
        rw [Bool.and_eq_true] at hc
        exact .inl ⟨a, b, ra.dp (shaped_lay hc.1), rb.dp (shaped_lay hc.2), hc.1, hc.2, q⟩
      · unfold nilEq at e
        split at e
        · cases e
          obtain ⟨p, xs, rfl, h1, h2⟩ := ra.tup_inv
          obtain ⟨p2, ys, rfl, h3, h4⟩ := rb.tup_inv
          cases h4
          refine .inr ⟨p, p2, xs, rfl, rfl, h1, h3, ?_⟩
          cases h2 <;> exact q
        · cases e
  | NotEq =>
    exact op2B fun x y a b k H Q ra rb e q => by
      have e : (eqD a b).map (!·) = some k := e
      cases e1 : eqD a b with
      | none => rw [e1] at e; cases e
      | some k' =>
        rw [e1] at e
        cases e
        obtain ⟨hc, rfl⟩ := ifO (show (if (SeqAt.shaped a && SeqAt.shaped b) = true then some (PyData.eqv a b) else none) = some k' from e1)
        rw [Bool.and_eq_true] at hc
        exact ⟨a, b, ra.dp (shaped_lay hc.1), rb.dp (shaped_lay hc.2), hc.1, hc.2, q⟩
  | Lt =>
    exact op2B fun x y a b k H Q ra rb e q => by
      have e : ltD a b = some k := e
      unfold ltD at e
      split at e
      · cases ra; cases rb; cases e; exact ⟨_, _, rfl, rfl, q⟩
      · cases e
  | LtE =>
    exact op2B fun x y a b k H Q ra rb e q => by
      have e : leD a b = some k := e
      unfold leD at e
      split at e
      · cases ra; cases rb; cases e; exact ⟨_, _, rfl, rfl, q⟩
      · cases e
  | Gt =>
    exact op2B fun x y a b k H Q ra rb e q => by
      have e : ltD b a = some k := e
      unfold ltD at e
      split at e
      · cases ra; cases rb; cases e; exact ⟨_, _, rfl, rfl, q⟩
      · cases e
  | GtE =>
    exact op2B fun x y a b k H Q ra rb e q => by
      have e : leD b a = some k := e
      unfold leD at e
      split at e
      · cases ra; cases rb; cases e; exact ⟨_, _, rfl, rfl, q⟩
      · cases e
  | In =>
    intro x y a b k H0 H Q sub ra rb e q
    refine op2_mem false x y a b k H0 H Q sub ra rb ?_ q
    obtain ⟨da, db, ea, eb, e⟩ := bindO e
    dsimp only
    rw [ea, eb]
    show (memD da db).map _ = _
    have e : memD da db = some k := e
    rw [e]; rfl
  | NotIn =>
    intro x y a b k H0 H Q sub ra rb e q
    refine op2_mem true x y a b k H0 H Q sub ra rb ?_ q
    obtain ⟨da, db, ea, eb, e⟩ := bindO e
    dsimp only
    rw [ea, eb]
    show (memD da db).map _ = _
    have e : (memD da db).map (!·) = some k := e
    cases e1 : memD da db with
    | none => rw [e1] at e; cases e
    | some k' => rw [e1] at e; cases e; rfl
  | Is =>
    exact op2B fun x y a b k H Q ra rb e q => by
      rcases isD_inv (show isD a b = some k from e) with ⟨rfl, rfl⟩ | ⟨p, r, rfl, rfl, rfl⟩
      · cases rb
        refine .inl ⟨rfl, ?_⟩
        rw [isNon_of ra]; exact q
      · cases ra; cases rb
        exact .inr ⟨_, _, rfl, rfl, q⟩
  | IsNot =>
    exact op2B fun x y a b k H Q ra rb e q => by
      have e : (isD a b).map (!·) = some k := e
      cases e1 : isD a b with
      | none => rw [e1] at e; cases e
      | some k' =>
        rw [e1] at e
        have e2 : (!k') = k := Option.some.inj e
        subst e2
        rcases isD_inv e1 with ⟨rfl, rfl⟩ | ⟨p, r, rfl, rfl, rfl⟩
        · cases rb
          refine .inl ⟨rfl, ?_⟩
          rw [isNon_of ra]; exact q
        · cases ra; cases rb
          exact .inr ⟨_, _, rfl, rfl, q⟩
/-! ### truth -/
theorem tru_of {K : KW} {H : Hp} {x : V} {d : D} {k : Bool} (r : Dr K H x d) (e : truD d = some k) : TruV K x H k := by
  cases r with
  | non => cases e; rfl
  | bl b => cases e; rfl
  | int i => cases e; rfl
  | str z =>
    obtain ⟨h, rfl⟩ := ifO (show (if z.length ≤ sizeLine then some (z.length != 0) else none) = some k from e)
    refine ⟨h, ?_⟩
    cases q : z.length with
    | zero => rfl
    | succ n =>
      have : (((n + 1 : Nat) : Int) != 0) = true := by simp; omega
      rw [this]; rfl
  | lst h hs =>
    cases e
    refine .inl ⟨_, SqL.of h, ?_⟩
    cases hs <;> rfl
  | tup h hs =>
    cases e
    refine .inr (.inl ⟨_, h, ?_⟩)
    cases hs <;> rfl
  | dct h hs => cases e
/-! ### items, slices -/
theorem ixN_len {n m : Nat} (h : n = m) (i : Int) : ixN n i = ixN m i := by rw [h]
theorem atI_of {K : KW} {H : Hp} {xs : List V} {ds : List D} {i : Int} {d : D} (h : DrAll K H xs ds) (e : atI ds i = some d) : ∃ v, atI xs i = some v ∧ Dr K H v d := by
  unfold atI at e ⊢
  rw [h.length]
  cases q : ixN ds.length i with
  | none => rw [q] at e; cases e
  | some j =>
    rw [q] at e
    exact h.getD e
def rIxA (K : PySem.W.Frag) : R2 := fun x y H Q => rIx K x y H Q ∨ rDIx x y H Q
theorem ix_any {X : Cx} (hu : X.A.units + 1 < cLine) : IxR X (rIxA X.K) := ix_seq.or (ix_dict hu)
theorem VR.dct {S : Sig} {H0 H : Hp} {v : V} {x : Vl} {kvs : List (D × D)} (r : VR S H0 H v x) (e : asD x = some (.dict kvs)) : Dr S.K H0 v (.dict kvs) := by
  cases x with
  | d t => cases e; exact r
  | gn => cases e
  | sc _ => cases e
  | co _ => cases e
  | bo t => cases e
theorem op2_ix {S : Sig} : Op2 S (rIxA S.K) ixD := by
  intro g x y a b z H0 H Q sub gen tabs ra rb e q
  obtain ⟨da, db, ea, eb, e⟩ := bindO e
  unfold itD at e
  split at e
  · rename_i kvs db
    split at e
    · rename_i hc
      rw [Bool.and_eq_true] at hc
      obtain ⟨kk, rfl⟩ := isKey_inv hc.1
      have ex := dr_key (rb.full sub eb)
      subst ex
      cases ra.dct ea with
      | dct h1 h2 =>
        rcases dFind_of kk h2 with ⟨f1, f2⟩ | ⟨v, d, f1, f2, f3⟩
        · rw [f2] at e; cases e
        · rw [f2] at e; cases e
          exact .inr ⟨_, v, rfl, .inl ⟨_, kk, .inr ⟨_, sub _ _ h1⟩, rfl, f1.symm⟩, q _ _ _ (Aft.same sub gen tabs) f3⟩
    · cases e
  · obtain rfl := (rb.full sub eb).int_inv
    obtain ⟨p, xs, rfl, h1, h2⟩ := ra.lst sub ea
    obtain ⟨v, h3, h4⟩ := atI_of h2 e
    exact .inl (.inl ⟨p, xs, _, v, rfl, rfl, SqL.of h1, h3, q _ _ _ (Aft.same sub gen tabs) h4⟩)
  · obtain rfl := (rb.full sub eb).int_inv
    obtain ⟨p, xs, rfl, h1, h2⟩ := Dr.tup_inv (ra.tup ea)
    obtain ⟨v, h3, h4⟩ := atI_of h2 e
    exact .inl (.inr (.inl ⟨p, xs, _, v, rfl, rfl, sqT_same sub h1, h3, q _ _ _ (Aft.same sub gen tabs) h4⟩))
  · cases e
theorem cut_of {K : KW} {H : Hp} {xs : List V} {ds : List D} (h : DrAll K H xs ds) (lo hi : Option Int) : DrAll K H (cutV xs lo hi) (cutD ds lo hi) := by
  unfold cutV cutD
  rw [h.length]
  exact (h.drop _).take _
/-- a slice -/
def rSlX (K : PySem.W.Frag) : V → Option Int → Option Int → Hp → VK → Prop := fun x lo hi H Q => rSlL K x lo hi H Q ∨ rSlA K x lo hi H Q
theorem sl_any {X : Cx} : L2.SlR X (rSlX X.K) := sl_list.or sl_tupA
theorem sIx_le' (n d : Nat) (h : d ≤ n) (o : Option Int) : HT.sIx n d o ≤ n := HT.sIx_le n d h o
theorem op_sl {S : Sig} {g : Gen} {x : V} {a : Vl} {z : D} {lo hi : Option Int} {H0 H : Hp} {Q : VK} (sub : Same H0 H) (gen : GenAt S.gm g H0 H) (tabs : LamX.Tabs S.T H) (ra : VR S H0 H x a) (e : slD a lo hi = some z)
    (q : ∀ v H0' H', Aft S g H0 H H0' H' → Dr S.K H0' v z → Q v H') : rSlX S.K x lo hi H Q := by
  unfold slD at e
  split at e
  · rename_i xs ea
    cases e
    obtain ⟨p, vs, rfl, h1, h2⟩ := ra.lst sub ea
    exact .inl ⟨p, vs, rfl, SqL.of h1, fun l hp => q _ _ _ (Aft.new sub gen tabs hp (fun ps z => by cases z)) (.lst upd_same ((cut_of h2 lo hi).same (same_new (sub.free hp))))⟩
  · rename_i xs ea
    cases e
    have ga := ra.tup ea
    obtain ⟨p, vs, rfl, h1, h2⟩ := Dr.tup_inv ga
    refine .inr ⟨p, vs, rfl, sqT_same sub h1, fun hw => ?_, fun _ l hp => q _ _ _ (Aft.new sub gen tabs hp (fun ps z => by cases z)) (.tup (SqT.of upd_same) ((cut_of h2 lo hi).same (same_new (sub.free hp))))⟩
    have ec : cutD xs lo hi = xs := by
      unfold cutD
      rw [h2.length] at hw
      rw [hw.1, hw.2]
      simp
    rw [ec] at q
    exact q _ _ _ (Aft.same sub gen tabs) ga
  · cases e
theorem units65 {k : Nat} {A : Around} (r : Room k A) : A.units + 65 < cLine := by have := r.un; omega
end PD
set_option Elab.async false
set_option linter.all false
set_option maxRecDepth 100000
set_option autoImplicit false
namespace PD
open PySem PySem.Spec L2
theorem ent_len : ∀ {ps : List DE} {xs : List (NestedKey × Addr × Value)}, Paired EntR ps xs → ps.length = xs.length
  | _, _, .nil => rfl
  | _, _, .cons _ t => by simp [ent_len t]
theorem ent_at : ∀ {ps : List DE} {xs : List (NestedKey × Addr × Value)}, Paired EntR ps xs → ∀ {i : Nat} {x : NestedKey × Addr × Value}, xs[i]? = some x → ∃ p, ps[i]? = some p ∧ EntR p x
  | _, _, .nil, i, x, e => by simp at e
  | _, _, .cons h t, 0, x, e => by
    simp at e; subst e
    exact ⟨_, rfl, h⟩
  | _, _, .cons h t, i + 1, x, e => by
    obtain ⟨p, h1, h2⟩ := ent_at t (i := i) (x := x) (by simpa using e)
    exact ⟨p, by simpa using h1, h2⟩
theorem vals_at : ∀ {vs : List V} {us : List Value}, vs.length = us.length → (∀ (i : Nat) (v : V) (u : Value), vs[i]? = some v → us[i]? = some u → RelV v u) → Vals vs us
  | [], [], _, _ => .nil
  | v :: vs, u :: us, hl, h => .cons (h 0 v u rfl rfl) (vals_at (by simpa using hl) fun i v' u' e1 e2 => h (i + 1) v' u' (by simpa using e1) (by simpa using e2))
  | [], _ :: _, hl, _ => by simp at hl
  | _ :: _, [], hl, _ => by simp at hl
/-- list(d) of an own dict: its keys -/
def rListN (w : World) : List V → Hp → VK → Prop := fun xs H Q => ∃ (a : Addr) (ps : List DE), xs = [.ref a] ∧ H a = some (DctN w a ps) ∧ ∀ l, H l = none → Q (.ref l) (upd H l (.lst (ps.map fun p => V.ref p.1.1)))
theorem call_listN {X : Cx} (hc : X.calm = true) : CallR X (.type "list") (rListN X.w) := by
  rintro pins s σ H xs us Q I r ⟨a, ps, rfl, ha, q⟩
  obtain ⟨u, rfl, rx⟩ := vals1 r
  cases rx
  obtain ⟨xs, pr, ns, sz, ⟨o, es, ep, ho, hx, hd, he⟩, nd⟩ : DctN0 X.w a ps s.heap := (I.hok a _ ha).1
  have hr : s.heap.DictRaw a es ep := ⟨o, ho, hx, hd⟩
  have hes : es.size = xs.length := by
    have := congrArg List.length he
    simpa using this
  have hl := ent_len pr
  have hh : X.A.handled = none := I.ok.hd hc
  refine PySem.W.kdl_call (PySem.KdlSrc.rawDict (es := es) (ep := ep) ns) hh hr (by omega) fun h' tk acc' c' hk hS hacc => ?_
  have ev : Vals (ps.map fun p => V.ref p.1.1) acc'.toList := by
    refine vals_at (by have h1 := hacc.1; have h2 : acc'.toList.length = acc'.size := Array.length_toList; simp only [List.length_map]; omega) fun i v u e1 e2 => ?_
    rw [Array.getElem?_toList] at e2
    obtain ⟨hi, rfl⟩ := hacc.2 i u e2
    have e3 : (xs.map fun x => ({ hash := nh X.w x.1, key := .ref x.2.1, val := x.2.2 } : DictEntry))[i]? = some es[i] := by
      rw [← he, Array.getElem?_toList]
      simp [hi]
    rw [List.getElem?_map] at e3
    cases ex : xs[i]? with
    | none => rw [ex] at e3; cases e3
    | some x =>
      rw [ex] at e3
      have e4 := Option.some.inj e3
      obtain ⟨p, e5, e6⟩ := ent_at pr ex
      rw [List.getElem?_map, e5] at e1
      cases e1
      rw [← e4]
      show Value.ref x.2.1 = Value.ref p.1.1
      rw [e6.2.1]
  exact ⟨.ref s.heap.objs.size, _, I.laid (t' := tk) hk (Nat.le_refl _) (show ObjOk X.prog X.w _ h' _ (.lst (ps.map fun p => V.ref p.1.1)) from ⟨by rw [List.length_map]; omega, acc'.toList, c', ev, by simpa using hS⟩), rfl, q _ (I.hok.fresh (Nat.le_refl _))⟩
/-- what is known of the keys of an own dict -/
theorem keys_dr {K : KW} {H : Hp} : ∀ {ps : List DE} {kvs : List (D × D)}, OkE K H ps → Paired (DvR K H) ps kvs → DrAll K H (ps.map fun p => V.ref p.1.1) (kvs.map (·.1))
  | _, _, _, .nil => .nil
  | p :: ps, q :: kvs, ok, .cons h t => by
    refine .cons ?_ (keys_dr (fun b hb => ok b (by rw [List.map_cons]; exact List.mem_cons_of_mem _ hb)) t)
    have := (ok p.1 (by simp)).2
    rw [h.1] at this
    exact this
end PD
set_option Elab.async false
set_option linter.all false
set_option maxRecDepth 100000
set_option autoImplicit false
namespace PD
open PySem PySem.Spec L2

section
variable {X : Cx} {pins : List (Addr × Obj)} {σ : L2.St} {H : Hp} {s : Shared}
theorem no_sys (I : Inv X pins σ H s) (sys : ∃ o, X.base.get? sysModules = some o) {a : Addr} {o : HO} (h : H a = some o) : ¬ sysModules = a := fun z => by
  obtain ⟨u, e⟩ := sys
  have n := (I.bs _ _ e).2
  rw [z, h] at n
  cases n
theorem prs_rd {P : Program} {w : World} {h : Heap} : ∀ {kvs : List (Key × V)} {vs : List (Key × Value)} {es : List DictEntry}, KV kvs vs → Pairs (mixKind P w) es vs →
    ReadsAll h (es.map (·.key)) (kvs.map fun q => keyD q.1) [] ∧ Vals (kvs.map (·.2)) (es.map (·.val)) := by
  intro kvs vs es q r
  induction q generalizing es with
  | nil => cases r; exact ⟨.nil, .nil⟩
  | cons h1 _ ih =>
    cases r with
    | cons k1 k2 k3 =>
      obtain ⟨i1, i2⟩ := ih k3
      refine ⟨?_, .cons ?_ i2⟩
      · have := i1
        rcases keyIs_shape k1 with ⟨i, t, e1, e2⟩ | ⟨x, t, e1, e2⟩
        · rw [List.map_cons, List.map_cons, e2, h1.1, e1]
          exact ReadsAll.cons (as := []) (Reads.int i t) i1
        · rw [List.map_cons, List.map_cons, e2, h1.1, e1]
          exact ReadsAll.cons (as := []) (Reads.str x t) i1
      · show RelV _ _
        dsimp only
        rw [k2]; exact h1.2
mutual
/-- what is read; the table of modules is none of it -/
theorem Dr.rds (I : Inv X pins σ H s) (sys : ∃ o, X.base.get? sysModules = some o) : ∀ {v : V} {d : D}, Dr (kx X) H v d → ∀ {u : Value}, RelV v u → ∃ as, Reads s.heap u d as ∧ ¬ sysModules ∈ as
  | _, _, .non, u, r => by cases r; exact ⟨_, Reads.none, by simp⟩
  | _, _, .bl b, u, r => by cases r; exact ⟨_, Reads.bool b, by simp⟩
  | _, _, .int i, u, r => by obtain ⟨t, rfl⟩ := r; exact ⟨_, Reads.int i t, by simp⟩
  | _, _, .str x, u, r => by obtain ⟨t, rfl⟩ := r; exact ⟨_, Reads.str x t, by simp⟩
  | _, _, .lst h hs, u, r => by
    cases r
    obtain ⟨z, its, n, rv, e⟩ := I.hok _ _ h
    obtain ⟨as, hr, hn⟩ := DrAll.rds I sys hs rv
    exact ⟨_, Reads.list e rfl rfl (by simpa using hr), by simp [hn, no_sys I sys h]⟩
  | _, _, .tup hq hs, u, r => by
    cases r
    obtain ⟨its, rv, ⟨o, ho, hc, n, hd⟩, _⟩ := I.tuple hq
    obtain ⟨as, hr, hn⟩ := DrAll.rds I sys hs rv
    exact ⟨_, Reads.tuple ho hc hd (by simpa using hr), hn⟩
  | _, _, .dct (kvs := kvs) (ds := ds) h hs, u, r => by
    cases r
    obtain ⟨_, z, zs, vs, kv, o, es, ep, e, ex, hd, ko, prs, nd⟩ := I.hok _ _ h
    have hl := hs.length
    rw [List.length_map] at hl
    obtain ⟨q1, q2⟩ := prs_rd (h := s.heap) kv prs
    obtain ⟨bs, hr, hn⟩ := DrAll.rds I sys hs q2
    refine ⟨_, Reads.dict (as := []) (bs := bs) e ex.1 hd ?_ ?_, by simp [hn, no_sys I sys h]⟩
    · rw [List.map_fst_zip (by simp [hl])]; exact q1
    · rw [List.map_snd_zip (by simp [hl])]; exact hr
theorem DrAll.rds (I : Inv X pins σ H s) (sys : ∃ o, X.base.get? sysModules = some o) : ∀ {vs : List V} {ds : List D}, DrAll (kx X) H vs ds → ∀ {us : List Value}, Vals vs us → ∃ as, ReadsAll s.heap us ds as ∧ ¬ sysModules ∈ as
  | _, _, .nil, us, r => by cases r; exact ⟨_, ReadsAll.nil, by simp⟩
  | _, _, .cons h hs, us, r => by
    cases r with
    | cons r1 r2 =>
      obtain ⟨as, q1, n1⟩ := Dr.rds I sys h r1
      obtain ⟨bs, q2, n2⟩ := DrAll.rds I sys hs r2
      exact ⟨_, ReadsAll.cons q1 q2, by simp [n1, n2]⟩
end
end
section
variable {X : Cx}
def rRepr (K : KW) : List V → Hp → VK → Prop := fun xs H Q => ∃ x d, xs = [x] ∧ Dr K H x d ∧ reprOk d = true ∧ Q (.str d.shown) H
theorem call_reprD (sys : ∃ o, X.base.get? sysModules = some o) (hg : X.A.guards = some []) (hu : X.A.units + 100 < cLine) : CallR X (.builtin "repr") (rRepr (kx X)) := by
  intro pins s σ H xs us Q I r h
  obtain ⟨x, d, rfl, hd, ho, q⟩ := h
  obtain ⟨u, rfl, ru⟩ := vals1 r
  unfold reprOk at ho
  simp only [Bool.and_eq_true, decide_eq_true_eq, Bool.not_eq_true'] at ho
  obtain ⟨⟨h1, h2⟩, h3⟩ := ho
  have gen : ∀ {a : Addr}, u = .ref a → wpAny (model X.prog X.w) X.A (call (.builtin "repr") [u]) (EP X pins σ Q) X.xe s := by
    intro a e
    obtain ⟨as, hr, hn⟩ := Dr.rds I sys hd ru
    subst e
    refine repr_of_reads' hr h1 (fun _ => hn) hg (by omega) (fun _ _ e => e) (fun h' u' tk hk => ?_) h2
    exact ⟨.str d.shown, H, I.kept (t' := tk) hk, ⟨_, rfl⟩, q⟩
  cases hd with
  | non => cases ru; exact PySem.P.repr_of_none ⟨.str _, H, I.tok _, ⟨_, rfl⟩, by simpa [PyData.shown] using q⟩
  | bl b => cases ru; exact PySem.P.repr_of_bool ⟨.str _, H, I.tok _, ⟨_, rfl⟩, by simpa [PyData.shown] using q⟩
  | int i =>
    obtain ⟨t, rfl⟩ := ru
    exact PySem.P.repr_of_int (by simpa [PyData.showable] using h1) ⟨.str _, H, I.tok _, ⟨_, rfl⟩, by simpa [PyData.shown] using q⟩
  | str z =>
    obtain ⟨t, rfl⟩ := ru
    exact PySem.P.repr_of_str ⟨.str _, H, I.tok _, ⟨_, rfl⟩, by simpa [PyData.shown] using q⟩ (by simpa [PyData.shown] using h2)
  | lst h hs => cases ru; exact gen rfl
  | tup h hs => cases ru; exact gen rfl
  | dct h hs => cases ru; exact gen rfl
end
/-- a builtin of values: what it asks -/
def bfV : Bf → Option Value
  | .len => some (.builtin "len")
  | .tuple => some (.type "tuple")
  | .list => some (.type "list")
  | .repr => some (.builtin "repr")
  | .int => some (.type "int")
  | .all => some (.builtin "all")
  | .min2 => some (.builtin "min")
  | .isinst _ => none
def bfName : Bf → Str
  | .len => "len"
  | .tuple => "tuple"
  | .list => "list"
  | .repr => "repr"
  | .int => "int"
  | .all => "all"
  | .min2 => "min"
  | .isinst _ => "isinstance"
def rBf (K : KW) : Bf → List V → Hp → VK → Prop
  | .len => fun xs H Q => ∃ x n, xs = [x] ∧ LenV K x H n ∧ Q (.int n) H
  | .tuple => fun xs H Q => ∃ p ys, xs = [.ref p] ∧ ((SqL K H p ys ∧ ∀ l, H l = none → Q (.ref l) (upd H l (.tup ys))) ∨ (SqT K H p ys ∧ Q (.ref p) H))
  | .list => fun xs H Q => (∃ p ys, xs = [.ref p] ∧ (SqL K H p ys ∨ SqT K H p ys) ∧ ∀ l, H l = none → Q (.ref l) (upd H l (.lst ys))) ∨ rListN K.w xs H Q
  | .repr => rRepr K
  | .int => fun xs H Q => (∃ i, xs = [.int i] ∧ Q (.int i) H) ∨ ∃ k, xs = [.bl k] ∧ Q (.int (if k then 1 else 0)) H
  | .all => rAll K
  | .min2 => fun xs H Q => ∃ i j, xs = [.int i, .int j] ∧ Q (.int (if j < i then j else i)) H
  | .isinst _ => fun _ _ _ => False
theorem callR_bf {X : Cx} (sys : ∃ o, X.base.get? sysModules = some o) (hg : X.A.guards = some []) (hu : X.A.units + 100 < cLine) (hc : X.calm = true) (f : Bf) (v : Value) (h : bfV f = some v) : CallR X v (rBf (kx X) f) := by
  cases f with
  | len => cases h; exact call_len
  | tuple => cases h; exact call_tuple_of
  | list => cases h; exact call_list_of.or (call_listN hc)
  | repr => cases h; exact call_reprD sys hg hu
  | int => cases h; exact call_int1
  | all => cases h; exact cr_all hc
  | min2 => cases h; exact call_min2 hc
  | isinst ts => cases h
theorem VRs.inv1 {S : Sig} {H0 H : Hp} {vs : List V} {a : Vl} (r : VRs S H0 H vs [a]) : ∃ v, vs = [v] ∧ VR S H0 H v a := by
  cases r with
  | cons h t => cases t; exact ⟨_, rfl, h⟩
theorem VRs.inv2 {S : Sig} {H0 H : Hp} {vs : List V} {a b : Vl} (r : VRs S H0 H vs [a, b]) : ∃ v w, vs = [v, w] ∧ VR S H0 H v a ∧ VR S H0 H w b := by
  cases r with
  | cons h t =>
    obtain ⟨w, e, h2⟩ := VRs.inv1 t
    subst e
    exact ⟨_, _, rfl, h, h2⟩
theorem bools_of {K : KW} {H : Hp} : ∀ {xs : List V} {ds : List D} {bs : List Bool}, DrAll K H xs ds → ds.mapM boolOf = some bs → xs = bs.map V.bl
  | _, _, bs, .nil, e => by
    have e : some [] = some bs := by simpa using e
    cases e; rfl
  | _, d :: ds, bs, .cons r rs, e => by
    rw [List.mapM_cons] at e
    cases e1 : boolOf d with
    | none => rw [e1] at e; cases e
    | some b =>
      cases e2 : ds.mapM boolOf with
      | none => rw [e1, e2] at e; cases e
      | some bs' =>
        rw [e1, e2] at e
        have e3 : b :: bs' = bs := Option.some.inj e
        subst e3
        have h := bools_of rs e2
        subst h
        unfold boolOf at e1
        split at e1
        · cases e1; cases r; rfl
        · cases e1
theorem allD_inv {x z : D} (e : allD x = some z) : ∃ ys bs, x = .list ys ∧ ys.mapM boolOf = some bs ∧ z = .bool (bs.all id) := by
  cases x with
  | list ys =>
    have e : (ys.mapM boolOf).map (fun bs => PyData.bool (bs.all id)) = some z := e
    cases e1 : ys.mapM boolOf with
    | none => rw [e1] at e; cases e
    | some bs => rw [e1] at e; cases e; exact ⟨ys, bs, rfl, e1, rfl⟩
  | _ => cases e
theorem op_bf {S : Sig} {f : Bf} {g : Gen} {vs : List V} {xs : List Vl} {z : D} {H0 H : Hp} {Q : VK} {v : Value} (hv : bfV f = some v) (sub : Same H0 H) (gen : GenAt S.gm g H0 H) (tabs : LamX.Tabs S.T H) (ra : VRs S H0 H vs xs) (e : bfD f xs = some z)
    (q : ∀ v H0' H', Aft S g H0 H H0' H' → Dr S.K H0' v z → Q v H') : rBf S.K f vs H Q := by
  have stay : ∀ {v : V}, Dr S.K H0 v z → Q v H := fun h => q _ _ _ (Aft.same sub gen tabs) h
  unfold bfD at e
  split at e
  · rename_i a
    obtain ⟨v1, rfl, r⟩ := ra.inv1
    cases es : scLen f a with
    | some d =>
      rw [es] at e
      have e : d = z := Option.some.inj e
      subst e
      unfold scLen at es
      split at es
      · cases es
        obtain ⟨p, rfl, h1⟩ := r
        exact ⟨_, _, rfl, .inl ⟨_, sqL_same sub h1, by simp⟩, stay (.int _)⟩
      · cases es
        obtain ⟨p, u, rfl, h1, ps, rfl, ok, pv⟩ := r
        refine .inr ⟨p, ps, rfl, h1, fun l hp => q _ _ _ (Aft.new sub gen tabs hp (fun ps z => by cases z)) (.lst upd_same ((keys_dr ok pv).same (same_new (sub.free hp))))⟩
      · cases es
    | none =>
    rw [es] at e
    have e : ((asD a).bind fun x => bf1 f x) = some z := e
    cases ea : asD a with
    | none => rw [ea] at e; cases e
    | some x =>
      rw [ea] at e
      have e : bf1 f x = some z := e
      have rf := r.full sub ea
      cases f with
      | len =>
        have e : lenD x = some z := e
        unfold lenD at e
        split at e
        · cases e
          obtain ⟨p, ys, rfl, h1, h2⟩ := rf.lst_inv
          exact ⟨_, _, rfl, .inl ⟨ys, SqL.of h1, rfl⟩, by rw [h2.length]; exact stay (.int _)⟩
        · cases e
          obtain ⟨p, ys, rfl, h1, h2⟩ := rf.tup_inv
          exact ⟨_, _, rfl, .inr ⟨ys, h1, rfl⟩, by rw [h2.length]; exact stay (.int _)⟩
        · obtain ⟨h, rfl⟩ := ifO e
          obtain rfl := rf.str_inv
          exact ⟨_, _, rfl, ⟨h, rfl⟩, stay (.int _)⟩
        · cases e
      | tuple =>
        have e : tupleD x = some z := e
        unfold tupleD at e
        split at e
        · cases e
          obtain ⟨p, ys, rfl, h1, h2⟩ := r.lst sub ea
          exact ⟨p, ys, rfl, .inl ⟨SqL.of h1, fun l hp => q _ _ _ (Aft.new sub gen tabs hp (fun ps z => by cases z)) (.tup (SqT.of upd_same) (h2.same (same_new (sub.free hp))))⟩⟩
        · cases e
          have h := r.tup ea
          obtain ⟨p, ys, rfl, h1, h2⟩ := h.tup_inv
          exact ⟨p, ys, rfl, .inr ⟨sqT_same sub h1, stay h⟩⟩
        · cases e
      | list =>
        have e : listD x = some z := e
        unfold listD at e
        split at e
        · cases e
          obtain ⟨p, ys, rfl, h1, h2⟩ := r.lst sub ea
          exact .inl ⟨p, ys, rfl, .inl (SqL.of h1), fun l hp => q _ _ _ (Aft.new sub gen tabs hp (fun ps z => by cases z)) (.lst upd_same (h2.same (same_new (sub.free hp))))⟩
        · cases e
          obtain ⟨p, ys, rfl, h1, h2⟩ := (r.tup ea).tup_inv
          exact .inl ⟨p, ys, rfl, .inr (sqT_same sub h1), fun l hp => q _ _ _ (Aft.new sub gen tabs hp (fun ps z => by cases z)) (.lst upd_same (h2.same (same_new (sub.free hp))))⟩
        · cases e
      | repr =>
        obtain ⟨h, rfl⟩ := ifO (show (if reprOk x = true then some (PyData.str x.shown) else none) = some z from e)
        exact ⟨_, x, rfl, rf, h, stay (.str _)⟩
      | int =>
        have e : intD x = some z := e
        unfold intD at e
        split at e
        · cases e
          obtain rfl := rf.int_inv
          exact .inl ⟨_, rfl, stay (.int _)⟩
        · cases e
          obtain rfl := rf.bl_inv
          exact .inr ⟨_, rfl, stay (.int _)⟩
        · cases e
      | all =>
        obtain ⟨ys, bs, rfl, e1, rfl⟩ := allD_inv e
        obtain ⟨p, ws, rfl, h1, h2⟩ := rf.lst_inv
        have hb := bools_of h2 e1
        subst hb
        exact ⟨p, bs, rfl, SqL.of h1, stay (.bl _)⟩
      | min2 => cases e
      | isinst ts => cases hv
  · rename_i a b
    obtain ⟨v1, v2, rfl, r1, r2⟩ := ra.inv2
    cases f with
    | min2 =>
      obtain ⟨da, db, ea, eb, e⟩ := bindO e
      unfold minD at e
      split at e
      · cases e
        obtain rfl := (r1.full sub ea).int_inv
        obtain rfl := (r2.full sub eb).int_inv
        exact ⟨_, _, rfl, stay (.int _)⟩
      · cases e
    | _ => cases e
  · cases e
end PD
set_option Elab.async false
set_option linter.all false
set_option maxRecDepth 100000
set_option autoImplicit false
namespace PD
open PySem PySem.Spec L2

/-! ### defs, with the guards of repr told -/
structure FnG (P : Program) (w : World) (K : PySem.W.Frag) (mg : Str → Option Value) (base : Heap) (CX : CXT) (k : Nat) (f : Addr) (fd : FuncData) (ps : List Str) (sp : Sp) : Prop where
  len : ∀ vs H Q E, sp vs H Q E → vs.length = ps.length
  run : ∀ (A : Around) (outer : List PySem.Env) (s : Shared) (H : Hp) (args : Args) (us : List Value) (vs : List V) (Q : VK) (E : XK), Room k A → A.guards = some [] → Env0 P w K mg base A outer s H → BindsTo s fd args (ps.zip us) → Vals vs us → sp vs H Q E →
    codeAny (model P w) A (.call (.ref f) args) (CR CX outer P w H s Q E) s
def relR (S : Sig) : Hp → Hp → V → D → Prop := fun H0 _ v d => Dr S.K H0 v d
def SpOk (S : Sig) (n : Nat) (m : List Vl → M D) (sp : Sp) : Prop :=
  ∀ (vs : List V) (xs : List Vl) (g : Gen) (H0 H : Hp) (Q : VK) (E : XK), xs.length = n → Same H0 H → NoG S.gm H0 → (∀ a ps, H0 a ≠ some (.tbl ps)) → GenAt S.gm g H0 H → LamX.Tabs S.T H → VRs S H0 H vs xs →
    Pst S (fun c d _ H => E c d H) [] H0 H (relR S) Q (m xs g) → sp vs H Q E
def CallOk (X : Cx) (S : Sig) (f : Str) (n : Nat) (m : List Vl → M D) : Prop :=
  ∃ (k : Nat) (fa : Addr) (fd : FuncData) (ps : List Str) (sp : Sp), FnG X.prog X.w X.K X.mg X.base (L2.CX X.prog X.w) k fa fd ps sp ∧ Room k X.A ∧ X.mg f = some (.ref fa) ∧ PySem.W.keepIn X.K (.ref fa) = true ∧ Binds X.K fd ps [] ∧ SpOk S n m sp
def bltNames : List Str := ["len", "tuple", "list", "repr", "int", "all", "min", "range", "enumerate", "isinstance", "str", "bool", "sorted", "set", "dict"]
/-- a tuple of the module's own, plain -/
def TupK (K : PySem.W.Frag) (v : V) (d : D) : Prop := isTupD d = true → ∃ p o, v = .ref p ∧ K.lookup p = some o ∧ o.cls = .type "tuple" ∧ o.dict = none
/-! ### the context -/
structure Gd0 (X : Cx) (S : Sig) (W : WX) (C : Cfg) (F : Fns) : Prop where
  hN : X.N = C.N
  hsc : X.env.scope = C.sc
  hK : X.K = S.K
  hw : X.w = S.K.w
  nd : C.N.Nodup
  calm : X.calm = true
  room : Room 0 X.A
  guards : X.A.guards = some []
  own : PassesOwn (model X.prog X.w) X.A X.env X.xe
  tk : Takes X W
  blt : ∀ x ∈ bltNames, X.mg x = none
  sys : ∃ o, X.base.get? sysModules = some o
  cst : ∀ x d, C.consts.lookup x = some d → ∃ u v, X.mg x = some u ∧ RelV v u ∧ (∀ H, Dr S.K H v d) ∧ TupK S.K v d
  fns : ∀ f n i, fnIx C.fns f n = some i → CallOk X S f n (F.call i)

theorem Gd0.kx {X : Cx} {S : Sig} {W : WX} {C : Cfg} {F : Fns} (G : Gd0 X S W C F) : PD.kx X = S.K := by
  have h1 := G.hK
  have h2 := G.hw
  cases h : S.K with
  | mk k w =>
    rw [h] at h1 h2
    show KW.mk X.K X.w = _
    rw [h1, h2]
/-! ### small lemmas -/
theorem M.bd_assoc {α β γ : Type} (m : M α) (f : α → M β) (h : β → M γ) : (m.bd f).bd h = m.bd fun a => (f a).bd h := by
  funext g; unfold M.bd; cases m g <;> rfl
theorem M.ofO_bd {α β : Type} (o : Option α) (f : α → M β) : (M.ofO o).bd f = (match o with | some a => f a | none => M.stuck) := by
  cases o <;> rfl
theorem M.pu_bd {α β : Type} (a : α) (f : α → M β) : (M.pu a).bd f = f a := rfl
theorem RX.intro {α β : Type} {S : Sig} {W : WX} {rel : Hp → Hp → β → α → Prop} {f : Env → M α} {σ : L2.St} {H : Hp} {Q : β → Hp → Prop} (env : Env) (g : Gen) {He H0e H0 : Hp} (R : Rl S env g σ He H0e H0 H) (h : Pst S W σ H0 H rel Q (f env g)) : RX S W rel f σ H Q := ⟨env, g, He, H0e, H0, R, h⟩
theorem ixOf_get : ∀ {N : List Str} {x : Str} {i : Nat}, ixOf N x = some i → N[i]? = some x
  | y :: ys, x, i, e => by
    unfold ixOf at e
    split at e
    · cases e; rename_i h; subst h; rfl
    · cases e1 : ixOf ys x with
      | none => rw [e1] at e; cases e
      | some j =>
        rw [e1] at e
        have : j + 1 = i := Option.some.inj e
        subst this
        simpa using ixOf_get e1
  | [], _, _, e => by cases e
theorem vis_of {sc : Scope} {x : Str} (h : visB sc x = true) : Vis sc x := by
  unfold visB at h
  split at h
  · exact .inl (by assumption)
  · exact .inr (.inl (by assumption))
  · exact .inr (.inr (by assumption))
  · cases h
theorem loc_of {sc : Scope} {x : Str} (h : locB sc x = true) : Loc sc x := by
  unfold locB at h
  split at h
  · exact .inl (by assumption)
  · exact .inr (by assumption)
  · cases h
theorem gl_of {X : Cx} {sc : Scope} {x : Str} (hs : X.env.scope = sc) (h : glB sc x = true) : Gl X x := by
  unfold glB at h
  split at h
  · show X.env.scope.names.lookup x = _
    rw [hs]; assumption
  · cases h
theorem dbg_of {x : Str} (h : (!dbg x) = true) : (x == ("__debug__" : Str)) = false ∧ (x == ("__classdict__" : Str)) = false := by
  unfold dbg at h
  rw [Bool.not_eq_true', Bool.or_eq_false_iff] at h
  exact h
structure SE (X : Cx) (S : Sig) (W : WX) (F : Fns) (e : Expr) (c : E) : Prop where
  pe : PE X e (RE S W (ev F c))
  pt : PT X e (RT S W (evT F c))
  ns : ∀ (rest : List Expr) (env : PySem.Env), starEach (e :: rest) env = (false, eval e env) :: starEach rest env
/-- _law_said(lambda: e), told -/
def SaidOk (X : Cx) (S : Sig) (W : WX) (C : Cfg) (F : Fns) : Prop := ∀ (params : Arguments) (body : Expr) (scope : Scope) (lpos p pos : Pos) (c : E), glB C.sc "_law_said" = true → lamB C params scope = true →
  (∀ X' W', Gd0 X' S W' (C.lamb scope) F → PE X' body (RE S W' (ev F c))) → PE X (.Call (.Name "_law_said" p) [.Lambda params body scope lpos] [] pos) (RE S W (ev F (.said c)))
structure Gd (X : Cx) (S : Sig) (W : WX) (C : Cfg) (F : Fns) : Prop extends Gd0 X S W C F where
  said : C.lam = true → SaidOk X S W C F
section
variable {X : Cx} {S : Sig} {W : WX} {C : Cfg} {F : Fns}

/-- a value's truth -/
theorem pt_of {e : Expr} {f : Env → M Vl} (G : Gd X S W C F) (h : PE X e (RE S W f)) (he : ∀ whole, isTrue e X.env whole = (do let v ← whole; standAt e.pos; holding [v] (truthy v))) :
    PT X e (RT S W fun env => (f env).bd fun x => .ofO ((asD x).bind truD)) := by
  refine PT.weak (pt_truth h he) fun σ H Q h => ?_
  obtain ⟨env, g, He, H0e, H0, R, h⟩ := h
  refine ⟨env, g, He, H0e, H0, R, Pst.bd h fun x g1 v H1 H1' a1 r1 h1 => ?_⟩
  cases e1 : asD x with
  | none => rw [e1] at h1; exact h1.elim
  | some d =>
    rw [e1] at h1
    cases e2 : truD d with
    | none =>
      have h1 : Pst S W σ H1 H1' relB Q (M.ofO (truD d) g1) := h1
      rw [e2] at h1; exact h1.elim
    | some k =>
      have h1 : Pst S W σ H1 H1' relB Q (M.ofO (truD d) g1) := h1
      rw [e2] at h1
      refine ⟨k, ?_, h1 k H1 H1' (Aft.refl (R.step a1)) rfl⟩
      rw [G.hK]
      exact tru_of (r1.full a1.sub e1) e2
theorem RT.eq {e : Expr} {f f' : Env → M Bool} (h : PT X e (RT S W f)) (q : ∀ env, f' env = f env) : PT X e (RT S W f') := by
  have : f' = f := funext q
  rw [this]; exact h
theorem RE.eq {e : Expr} {f f' : Env → M Vl} (h : PE X e (RE S W f)) (q : ∀ env, f' env = f env) : PE X e (RE S W f') := by
  have : f' = f := funext q
  rw [this]; exact h

theorem s_const {e : Expr} {v : V} {d : D} (he : PE X e (tC v)) (hd : ∀ H, Dr S.K H v d) : PE X e (RE S W fun _ => .pu (.d d)) := by
  refine PE.weak he fun σ H Q h => ?_
  obtain ⟨env, g, He, H0e, H0, R, h⟩ := h
  exact h v H0 H (Aft.refl R) (hd H0)
theorem s_var {x : Str} {pos : Pos} {i : Nat} (G : Gd X S W C F) (h : C.var x = some i) : PE X (.Name x pos) (RE S W fun env => env.get i) := by
  unfold Cfg.var at h
  split at h
  · rename_i hc
    rw [Bool.and_eq_true] at hc
    obtain ⟨d1, d2⟩ := dbg_of hc.2
    have hv : Vis X.env.scope x := by rw [G.hsc]; exact vis_of hc.1
    refine PE.weak (pe_var (i := i) (by rw [G.hN]; exact ixOf_get h) hv d1 d2) fun σ H Q q => ?_
    obtain ⟨env, g, He, H0e, H0, R, q⟩ := q
    have q : Pst S W σ H0 H (VR S) Q (Env.get env i g) := q
    unfold Env.get at q
    cases e1 : env[i]? with
    | none => rw [e1] at q; exact q.elim
    | some s =>
      rw [e1] at q
      obtain ⟨o, e2, e3⟩ := R.slots i _ e1
      cases s with
      | un => exact q.elim
      | fz d =>
        obtain ⟨v, e4, e5⟩ := e3
        subst e4
        exact ⟨v, e2, q v H0 H (Aft.refl R) e5⟩
      | ow ds =>
        obtain ⟨a, xs, e4, e5, _, _, e6⟩ := e3
        subst e4
        exact ⟨_, e2, q _ H0 H (Aft.refl R) ⟨a, xs, rfl, e5, e6⟩⟩
      | oc c =>
        obtain ⟨a, u, e4, e5, _, _, e6⟩ := e3
        subst e4
        exact ⟨_, e2, q _ H0 H (Aft.refl R) ⟨a, u, rfl, e5, e6⟩⟩
      | gn =>
        obtain ⟨p, e4, e5⟩ := e3
        subst e5
        exact ⟨_, e2, q _ H0 H (Aft.refl R) ⟨p, e4, rfl⟩⟩
      | sc ns =>
        obtain ⟨p, e4, e5⟩ := e3
        subst e4
        exact ⟨_, e2, q _ H0 H (Aft.refl R) ⟨p, rfl, e5⟩⟩
  · cases h
theorem s_name {x : Str} {pos : Pos} {c : E} (G : Gd X S W C F) (h : cName C x = some c) : SE X S W F (.Name x pos) c := by
  unfold cName at h
  cases e : C.var x with
  | some i =>
    rw [e] at h
    cases h
    have hp : PE X (.Name x pos) (RE S W fun env => env.get i) := s_var G e
    exact ⟨RE.eq hp fun env => by simp only [ev], RT.eq (pt_of G hp fun _ => rfl) fun env => by simp only [evT], fun _ _ => rfl⟩
  | none =>
    rw [e] at h
    simp only [] at h
    split at h
    · rename_i hc
      rw [Bool.and_eq_true] at hc
      cases e1 : C.consts.lookup x with
      | none => rw [e1] at h; cases h
      | some d =>
        rw [e1] at h
        cases h
        obtain ⟨u, v, h1, h2, h3, _⟩ := G.cst x d e1
        have hp : PE X (.Name x pos) (RE S W fun _ => .pu (.d d)) := s_const (pe_glob (gl_of G.hsc hc.1) h1 h2 (dbg_of hc.2).1) h3
        refine ⟨RE.eq hp fun env => by simp only [ev], RT.eq (pt_of G hp fun _ => rfl) fun env => by simp only [evT, M.pu_bd, asD, Option.bind], fun _ _ => rfl⟩
    · cases h
theorem s_bin {a b : Expr} {op : Operator} {pos : Pos} {ca cb : E} (G : Gd X S W C F) (h : opOk op = true) (ha : SE X S W F a ca) (hb : SE X S W F b cb) : SE X S W F (.BinOp a op b pos) (.bin op ca cb) := by
  have hp := pe_bin (pos := pos) (opR_bin (X := X) G.hK op h) (op2_bin op h) ha.pe hb.pe
  refine ⟨RE.eq hp fun env => by simp only [ev], RT.eq (pt_of G hp fun _ => rfl) fun env => ?_, fun _ _ => rfl⟩
  simp only [evT, M.bd_assoc]
  congr 1; funext x; congr 1; funext y
  rw [M.ofO_bd]
  cases binD op x y <;> rfl
/-- not, by truth -/
theorem s_not {a : Expr} {pos : Pos} {ca : E} (G : Gd X S W C F) (ha : SE X S W F a ca) : SE X S W F (.UnaryOp .Not a pos) (.not ca) := by
  refine ⟨PE.weak (pe_notT ha.pe) fun σ H Q h => ?_, PT.weak (pt_not ha.pt) fun σ H Q h => ?_, fun _ _ => rfl⟩
  · obtain ⟨env, g, He, H0e, H0, R, h⟩ := h
    simp only [ev] at h
    refine ⟨env, g, He, H0e, H0, R, Pst.bd h fun x g1 v H1 H1' a1 r1 h1 => ?_⟩
    rw [M.ofO_bd] at h1
    cases e1 : asD x with
    | none => rw [e1] at h1; exact h1.elim
    | some d =>
      rw [e1] at h1
      cases e2 : truD d with
      | none => simp only [Option.bind, e2] at h1; exact h1.elim
      | some k =>
        simp only [Option.bind, e2] at h1
        refine ⟨k, ?_, h1 _ H1 H1' (Aft.refl (R.step a1)) (Dr.bl _)⟩
        rw [G.hK]
        exact tru_of (r1.full a1.sub e1) e2
  · obtain ⟨env, g, He, H0e, H0, R, h⟩ := h
    simp only [evT] at h
    refine ⟨env, g, He, H0e, H0, R, Pst.bd h fun x g1 v H1 H1' a1 r1 h1 => ?_⟩
    have r1 : v = x := r1
    subst r1
    exact h1 _ H1 H1' (Aft.refl (R.step a1)) rfl
end
end PD
set_option Elab.async false
set_option linter.all false
set_option maxRecDepth 100000
set_option autoImplicit false
namespace PD
open PySem PySem.Spec L2

inductive SEs (X : Cx) (S : Sig) (W : WX) (F : Fns) : List Expr → List E → Prop
  | nil : SEs X S W F [] []
  | cons {e : Expr} {es : List Expr} {c : E} {cs : List E} : SE X S W F e c → SEs X S W F es cs → SEs X S W F (e :: es) (c :: cs)
section
variable {X : Cx} {S : Sig} {W : WX} {C : Cfg} {F : Fns}
theorem SEs.pa : ∀ {es : List Expr} {cs : List E}, SEs X S W F es cs → PA X es (RA S W (evs F cs))
  | _, _, .nil => PA.weak pa_nil fun σ H Q h => by
    obtain ⟨env, g, He, H0e, H0, R, h⟩ := h
    simp only [evs] at h
    exact h [] H0 H (Aft.refl R) .nil
  | e :: es, c :: cs, .cons h hs => PA.weak (pa_cons h.pe hs.pa (h.ns _ _)) fun σ H Q q => by
    obtain ⟨env, g, He, H0e, H0, R, q⟩ := q
    simp only [evs] at q
    refine ⟨env, g, He, H0e, H0, R, Pst.bd q fun x g1 v H1 H1' a1 r1 h1 => ?_⟩
    refine ⟨env, g1, He, H0e, H1, R.step a1, Pst.bd h1 fun xs g2 vs H2 H2' a2 r2 h2 => ?_⟩
    exact h2 _ H2 H2' (Aft.refl ((R.step a1).step a2)) (.cons (r1.step (R.step a1).gen a2) r2)
theorem SEs.plain (pos : Pos) (env : PySem.Env) : ∀ {es : List Expr} {cs : List E}, SEs X S W F es cs → (backTo pos (starEach es env)).any (·.1) = false
  | _, _, .nil => by simp [starEach, backTo]
  | e :: es, c :: cs, .cons h hs => by
    rw [h.ns]
    have := SEs.plain pos env hs
    unfold backTo at this ⊢
    simp only [List.map_cons, List.any_cons, this, Bool.or_self]
theorem SEs.length : ∀ {es : List Expr} {cs : List E}, SEs X S W F es cs → es.length = cs.length
  | _, _, .nil => rfl
  | _, _, .cons _ hs => by simp [SEs.length hs]
/-! ### comparisons -/
theorem cmp_bd {op : CmpOp} {fa fb : Env → M Vl} {a b : Expr} (G : Gd X S W C F) (ha : PE X a (RE S W fa)) (hb : PE X b (RE S W fb)) {σ : L2.St} {H : Hp} {Q : VK}
    (h : RX S W (VR S) (fun env => (fa env).bd fun x => (fb env).bd fun y => .ofO ((cmpD op x y).map fun b => .d (.bool b))) σ H Q) : tOp (rCmp S op) (RE S W fa) (RE S W fb) σ H Q := by
  obtain ⟨env, g, He, H0e, H0, R, h⟩ := h
  refine ⟨env, g, He, H0e, H0, R, Pst.bd h fun x g1 v H1 H1' a1 r1 h1 => ?_⟩
  refine ⟨env, g1, He, H0e, H1, R.step a1, Pst.bd h1 fun y g2 w H2 H2' a2 r2 h2 => ?_⟩
  cases e : cmpD op x y with
  | none => rw [e] at h2; exact h2.elim
  | some k =>
    rw [e] at h2
    exact op2_cmp op v w x y k H2 H2' Q a2.sub (r1.step (R.step a1).gen a2) r2 e (h2 _ H2 H2' (Aft.refl ((R.step a1).step a2)) (Dr.bl _))
theorem s_cmp {a b : Expr} {op : CmpOp} {pos : Pos} {ca cb : E} (G : Gd X S W C F) (hm : behindInMarks op b = false) (ha : SE X S W F a ca) (hb : SE X S W F b cb) : SE X S W F (.Compare a [op] [b] pos) (.cmp op ca cb) := by
  have hu : X.A.units + 65 < cLine := units65 G.room
  refine ⟨PE.weak (pe_cmpR (opR_cmp G.hK hu op) ha.pe hb.pe hm) fun σ H Q h => ?_, PT.weak (pt_cmpR (opR_cmp G.hK hu op) ha.pe hb.pe hm) fun σ H Q h => ?_, fun _ _ => rfl⟩
  · simp only [ev] at h
    exact cmp_bd G ha.pe hb.pe h
  · simp only [evT] at h
    obtain ⟨env, g, He, H0e, H0, R, h⟩ := h
    refine ⟨env, g, He, H0e, H0, R, Pst.bd h fun x g1 v H1 H1' a1 r1 h1 => ?_⟩
    refine ⟨env, g1, He, H0e, H1, R.step a1, Pst.bd h1 fun y g2 w H2 H2' a2 r2 h2 => ?_⟩
    cases e : cmpD op x y with
    | none => rw [e] at h2; exact h2.elim
    | some k =>
      rw [e] at h2
      exact op2_cmp op v w x y k H2 H2' _ a2.sub (r1.step (R.step a1).gen a2) r2 e ⟨k, rfl, h2 k H2 H2' (Aft.refl ((R.step a1).step a2)) rfl⟩
theorem s_chain {a b c : Expr} {op op' : CmpOp} {pos : Pos} {ca cb cc : E} (G : Gd X S W C F) (hm : lastMarks [op, op'] [b, c] = false) (ha : SE X S W F a ca) (hb : SE X S W F b cb) (hc : SE X S W F c cc) : SE X S W F (.Compare a [op, op'] [b, c] pos) (.chain op op' ca cb cc) := by
  have hu : X.A.units + 65 < cLine := units65 G.room
  refine ⟨PE.weak (pe_chain (opR_cmp G.hK hu op) (opR_cmp G.hK hu op') ha.pe hb.pe hc.pe hm) fun σ H Q h => ?_, PT.weak (pt_chain (opR_cmp G.hK hu op) (opR_cmp G.hK hu op') ha.pe hb.pe hc.pe hm) fun σ H Q h => ?_, fun _ _ => rfl⟩
  · simp only [ev] at h
    obtain ⟨env, g, He, H0e, H0, R, h⟩ := h
    refine ⟨env, g, He, H0e, H0, R, Pst.bd h fun x g1 v H1 H1' a1 r1 h1 => ?_⟩
    refine ⟨env, g1, He, H0e, H1, R.step a1, Pst.bd h1 fun y g2 w H2 H2' a2 r2 h2 => ?_⟩
    have R2 := (R.step a1).step a2
    rw [M.ofO_bd] at h2
    cases e : cmpD op x y with
    | none => rw [e] at h2; exact h2.elim
    | some k =>
      rw [e] at h2
      refine op2_cmp op v w x y k H2 H2' _ a2.sub (r1.step (R.step a1).gen a2) r2 e ⟨k, rfl, ?_⟩
      cases k with
      | false => exact iteF (h2 _ H2 H2' (Aft.refl R2) (Dr.bl _))
      | true =>
        refine iteT ⟨env, g2, He, H0e, H2, R2, Pst.bd h2 fun z g3 u H3 H3' a3 r3 h3 => ?_⟩
        cases e2 : cmpD op' y z with
        | none => rw [e2] at h3; exact h3.elim
        | some k' =>
          rw [e2] at h3
          exact op2_cmp op' w u y z k' H3 H3' _ a3.sub (r2.step R2.gen a3) r3 e2 (h3 _ H3 H3' (Aft.refl (R2.step a3)) (Dr.bl _))
  · simp only [evT] at h
    obtain ⟨env, g, He, H0e, H0, R, h⟩ := h
    refine ⟨env, g, He, H0e, H0, R, Pst.bd h fun x g1 v H1 H1' a1 r1 h1 => ?_⟩
    refine ⟨env, g1, He, H0e, H1, R.step a1, Pst.bd h1 fun y g2 w H2 H2' a2 r2 h2 => ?_⟩
    have R2 := (R.step a1).step a2
    rw [M.ofO_bd] at h2
    cases e : cmpD op x y with
    | none => rw [e] at h2; exact h2.elim
    | some k =>
      rw [e] at h2
      refine op2_cmp op v w x y k H2 H2' _ a2.sub (r1.step (R.step a1).gen a2) r2 e ⟨k, rfl, ?_⟩
      cases k with
      | false => exact iteF ⟨false, rfl, h2 _ H2 H2' (Aft.refl R2) rfl⟩
      | true =>
        refine iteT ⟨env, g2, He, H0e, H2, R2, Pst.bd h2 fun z g3 u H3 H3' a3 r3 h3 => ?_⟩
        cases e2 : cmpD op' y z with
        | none => rw [e2] at h3; exact h3.elim
        | some k' =>
          rw [e2] at h3
          exact op2_cmp op' w u y z k' H3 H3' _ a3.sub (r2.step R2.gen a3) r3 e2 ⟨k', rfl, h3 _ H3 H3' (Aft.refl (R2.step a3)) rfl⟩
/-! ### and, or -/
theorem tru_bd {x : Vl} {g : Gen} {H1 H1' : Hp} {v : V} {α β : Type} {rel : Hp → Hp → β → α → Prop} {σ : L2.St} {Q : β → Hp → Prop} {kt : Bool → M α} (G : Gd X S W C F) (sub : Same H1 H1') (r : VR S H1 H1' v x)
    (h : Pst S W σ H1 H1' rel Q (((M.ofO ((asD x).bind truD)).bd kt) g)) : ∃ k, TruV X.K v H1' k ∧ Pst S W σ H1 H1' rel Q (kt k g) := by
  rw [M.ofO_bd] at h
  cases e1 : asD x with
  | none => rw [e1] at h; exact h.elim
  | some d =>
    rw [e1] at h
    cases e2 : truD d with
    | none => simp only [Option.bind, e2] at h; exact h.elim
    | some k =>
      simp only [Option.bind, e2] at h
      refine ⟨k, ?_, h⟩
      rw [G.hK]
      exact tru_of (r.full sub e1) e2
theorem s_and (G : Gd X S W C F) (pos : Pos) : ∀ {es : List Expr} {cs : List E} {c : E}, SEs X S W F es cs → andE cs = some c → PE X (.BoolOp .And es pos) (RE S W (ev F c)) ∧ PW X (.BoolOp .And es pos) (RT S W (evT F c))
  | [], _, c, .nil, e => by cases e
  | [a], _, c, .cons ha .nil, e => by
    cases e
    exact ⟨pe_one ha.pe, pw_and1 ha.pt⟩
  | a :: b :: r, ca :: cb :: cr, c, .cons ha hs, e => by
    have e : (andE (cb :: cr)).map (E.and ca) = some c := e
    cases e1 : andE (cb :: cr) with
    | none => rw [e1] at e; cases e
    | some c' =>
      rw [e1] at e
      cases e
      obtain ⟨h1, h2⟩ := s_and G pos hs e1
      refine ⟨PE.weak (pe_andT ha.pe h1) fun σ H Q h => ?_, PW.weak (pw_and ha.pt h2) fun σ H Q h => ?_⟩
      · simp only [ev] at h
        obtain ⟨env, g, He, H0e, H0, R, h⟩ := h
        refine ⟨env, g, He, H0e, H0, R, Pst.bd h fun x g1 v H1 H1' a1 r1 h1 => ?_⟩
        obtain ⟨k, tk, h1⟩ := tru_bd G a1.sub r1 h1
        refine ⟨k, tk, ?_⟩
        cases k with
        | true => exact iteT ⟨env, g1, He, H0e, H1, R.step a1, h1⟩
        | false => exact iteF (h1 _ H1 H1' (Aft.refl (R.step a1)) r1)
      · simp only [evT] at h
        obtain ⟨env, g, He, H0e, H0, R, h⟩ := h
        refine ⟨env, g, He, H0e, H0, R, Pst.bd h fun x g1 v H1 H1' a1 r1 h1 => ?_⟩
        have r1 : v = x := r1
        subst r1
        cases v with
        | true => exact iteT ⟨env, g1, He, H0e, H1, R.step a1, h1⟩
        | false => exact iteF (h1 _ H1 H1' (Aft.refl (R.step a1)) rfl)
theorem s_or (G : Gd X S W C F) (pos : Pos) : ∀ {es : List Expr} {cs : List E} {c : E}, SEs X S W F es cs → orE cs = some c → PE X (.BoolOp .Or es pos) (RE S W (ev F c)) ∧ PW X (.BoolOp .Or es pos) (RT S W (evT F c))
  | [], _, c, .nil, e => by cases e
  | [a], _, c, .cons ha .nil, e => by
    cases e
    exact ⟨pe_one ha.pe, pw_or1 ha.pt⟩
  | a :: b :: r, ca :: cb :: cr, c, .cons ha hs, e => by
    have e : (orE (cb :: cr)).map (E.or ca) = some c := e
    cases e1 : orE (cb :: cr) with
    | none => rw [e1] at e; cases e
    | some c' =>
      rw [e1] at e
      cases e
      obtain ⟨h1, h2⟩ := s_or G pos hs e1
      refine ⟨PE.weak (pe_orT ha.pe h1) fun σ H Q h => ?_, PW.weak (pw_or ha.pt h2) fun σ H Q h => ?_⟩
      · simp only [ev] at h
        obtain ⟨env, g, He, H0e, H0, R, h⟩ := h
        refine ⟨env, g, He, H0e, H0, R, Pst.bd h fun x g1 v H1 H1' a1 r1 h1 => ?_⟩
        obtain ⟨k, tk, h1⟩ := tru_bd G a1.sub r1 h1
        refine ⟨k, tk, ?_⟩
        cases k with
        | false => exact iteF ⟨env, g1, He, H0e, H1, R.step a1, h1⟩
        | true => exact iteT (h1 _ H1 H1' (Aft.refl (R.step a1)) r1)
      · simp only [evT] at h
        obtain ⟨env, g, He, H0e, H0, R, h⟩ := h
        refine ⟨env, g, He, H0e, H0, R, Pst.bd h fun x g1 v H1 H1' a1 r1 h1 => ?_⟩
        have r1 : v = x := r1
        subst r1
        cases v with
        | false => exact iteF ⟨env, g1, He, H0e, H1, R.step a1, h1⟩
        | true => exact iteT (h1 _ H1 H1' (Aft.refl (R.step a1)) rfl)
/-! ### a if t else b -/
theorem pt_ifExp {t a b : Expr} {pos : Pos} {tc ta tb : TT} (ht : PT X t tc) (ha : PT X a ta) (hb : PT X b tb) : PT X (.IfExp t a b pos) (fun σ H Q => tc σ H fun c H1 => if c = true then ta σ H1 Q else tb σ H1 Q) := by
  refine ⟨fun pins s σ H Q I h => ?_⟩
  show wpAny _ _ (do if ← isTrue t X.env (eval t X.env) then isTrue a X.env (eval a X.env) else isTrue b X.env (eval b X.env)) _ _ _
  refine wpAny_bind (thn (ht.run pins s σ H _ I h) fun c s1 ⟨H1, I1, q1⟩ => ?_)
  cases c with
  | true => exact ha.run pins s1 σ H1 Q I1 q1
  | false => exact hb.run pins s1 σ H1 Q I1 q1
theorem s_ite {t a b : Expr} {pos : Pos} {ct ca cb : E} (ht : SE X S W F t ct) (ha : SE X S W F a ca) (hb : SE X S W F b cb) : SE X S W F (.IfExp t a b pos) (.ite ct ca cb) := by
  refine ⟨PE.weak (pe_ifExp ht.pt ha.pe hb.pe) fun σ H Q h => ?_, PT.weak (pt_ifExp ht.pt ha.pt hb.pt) fun σ H Q h => ?_, fun _ _ => rfl⟩
  · simp only [ev] at h
    obtain ⟨env, g, He, H0e, H0, R, h⟩ := h
    refine ⟨env, g, He, H0e, H0, R, Pst.bd h fun x g1 v H1 H1' a1 r1 h1 => ?_⟩
    have r1 : v = x := r1
    subst r1
    cases v with
    | true => exact iteT ⟨env, g1, He, H0e, H1, R.step a1, h1⟩
    | false => exact iteF ⟨env, g1, He, H0e, H1, R.step a1, h1⟩
  · simp only [evT] at h
    obtain ⟨env, g, He, H0e, H0, R, h⟩ := h
    refine ⟨env, g, He, H0e, H0, R, Pst.bd h fun x g1 v H1 H1' a1 r1 h1 => ?_⟩
    have r1 : v = x := r1
    subst r1
    cases v with
    | true => exact iteT ⟨env, g1, He, H0e, H1, R.step a1, h1⟩
    | false => exact iteF ⟨env, g1, He, H0e, H1, R.step a1, h1⟩
end
end PD
set_option Elab.async false
set_option linter.all false
set_option maxRecDepth 100000
set_option autoImplicit false
namespace PD
open PySem PySem.Spec L2

section
variable {X : Cx} {S : Sig} {W : WX} {C : Cfg} {F : Fns}
theorem drs_of {H0 H : Hp} : ∀ {vs : List V} {xs : List Vl} {ds : List D}, VRs S H0 H vs xs → xs.mapM dOf = some ds → DrAll S.K H0 vs ds
  | _, _, ds, .nil, e => by
    have e : some [] = some ds := by simpa using e
    cases e; exact .nil
  | _, x :: xs, ds, .cons r rs, e => by
    rw [List.mapM_cons] at e
    cases e1 : dOf x with
    | none => rw [e1] at e; cases e
    | some d =>
      cases e2 : xs.mapM dOf with
      | none => rw [e1, e2] at e; cases e
      | some ds' =>
        rw [e1, e2] at e
        have e3 : d :: ds' = ds := Option.some.inj e
        subst e3
        cases x with
        | d y => cases e1; exact .cons r (drs_of rs e2)
        | gn => cases e1
        | sc _ => cases e1
        | co _ => cases e1
        | bo y => cases e1
theorem mapM_len {α β : Type} {f : α → Option β} : ∀ {xs : List α} {ys : List β}, xs.mapM f = some ys → xs.length = ys.length
  | [], ys, e => by
    have e : some [] = some ys := by simpa using e
    cases e; rfl
  | x :: xs, ys, e => by
    rw [List.mapM_cons] at e
    cases e1 : f x with
    | none => rw [e1] at e; cases e
    | some d =>
      cases e2 : xs.mapM f with
      | none => rw [e1, e2] at e; cases e
      | some ds' =>
        rw [e1, e2] at e
        have e3 : d :: ds' = ys := Option.some.inj e
        subst e3
        simp [mapM_len e2]
theorem s_tup {es : List Expr} {cs : List E} {k : Nat} {pos : Pos} (G : Gd X S W C F) (h : SEs X S W F es cs) : SE X S W F (.Tuple es k pos) (.tup cs) := by
  refine ⟨PE.weak (pe_tup h.pa) fun σ H Q q => ?_, ?_, fun _ _ => rfl⟩
  · simp only [ev] at q
    obtain ⟨env, g, He, H0e, H0, R, q⟩ := q
    refine ⟨env, g, He, H0e, H0, R, Pst.bd q fun xs g1 vs H1 H1' a1 r1 h1 => ?_⟩
    rw [M.ofO_bd] at h1
    cases e : xs.mapM dOf with
    | none => rw [e] at h1; exact h1.elim
    | some ds =>
      rw [e] at h1
      have hd := drs_of r1 e
      by_cases hl : ds.length ≤ sizeLine
      · simp only [if_pos hl] at h1
        refine ⟨by rw [hd.length]; exact hl, fun p hp => ?_⟩
        have R1 := R.step a1
        exact h1 _ _ _ (Aft.new R1.sub R1.gen R1.tabs hp (fun ps z => by cases z)) (Dr.tup (SqT.of upd_same) (hd.same (same_new (R1.sub.free hp))))
      · simp only [if_neg hl] at h1; exact h1.elim
  · refine ⟨fun pins s σ H Q I q => ?_⟩
    simp only [evT] at q
    obtain ⟨env, g, He, H0e, H0, R, q⟩ := q
    exact q.elim
theorem s_lst {es : List Expr} {cs : List E} {pos : Pos} (G : Gd X S W C F) (h : SEs X S W F es cs) : SE X S W F (.List es pos) (.lst cs) := by
  refine ⟨PE.weak (pe_lst h.pa) fun σ H Q q => ?_, ?_, fun _ _ => rfl⟩
  · simp only [ev] at q
    obtain ⟨env, g, He, H0e, H0, R, q⟩ := q
    refine ⟨env, g, He, H0e, H0, R, Pst.bd q fun xs g1 vs H1 H1' a1 r1 h1 => ?_⟩
    rw [M.ofO_bd] at h1
    cases e : xs.mapM dOf with
    | none => rw [e] at h1; exact h1.elim
    | some ds =>
      rw [e] at h1
      have hd := drs_of r1 e
      by_cases hl : ds.length ≤ sizeLine
      · simp only [if_pos hl] at h1
        refine ⟨by rw [hd.length]; exact hl, fun p hp => ?_⟩
        have R1 := R.step a1
        exact h1 _ _ _ (Aft.new R1.sub R1.gen R1.tabs hp (fun ps z => by cases z)) (Dr.lst upd_same (hd.same (same_new (R1.sub.free hp))))
      · simp only [if_neg hl] at h1; exact h1.elim
  · refine ⟨fun pins s σ H Q I q => ?_⟩
    simp only [evT] at q
    obtain ⟨env, g, He, H0e, H0, R, q⟩ := q
    exact q.elim
/-! ### items, slices -/
theorem s_ix {a b : Expr} {pos : Pos} {ca cb : E} (G : Gd X S W C F) (hx : PlainIx b) (ha : SE X S W F a ca) (hb : SE X S W F b cb) : SE X S W F (.Subscript a b pos) (.ix ca cb) := by
  have hp : PE X (.Subscript a b pos) (RE S W fun env => (ev F ca env).bd fun x => (ev F cb env).bd fun y => .ofO ((ixD x y).map .d)) := by
    refine PE.weak (pe_ix (ix_any (by have := G.room.un; omega)) ha.pe hb.pe hx) fun σ H Q h => ?_
    obtain ⟨env, g, He, H0e, H0, R, h⟩ := h
    refine ⟨env, g, He, H0e, H0, R, Pst.bd h fun x g1 v H1 H1' a1 r1 h1 => ?_⟩
    refine ⟨env, g1, He, H0e, H1, R.step a1, Pst.bd h1 fun y g2 w H2 H2' a2 r2 h2 => ?_⟩
    have R2 := (R.step a1).step a2
    cases e : ixD x y with
    | none => rw [e] at h2; exact h2.elim
    | some z =>
      rw [e] at h2
      rw [G.hK]
      exact op2_ix g2 v w x y z H2 H2' Q R2.sub R2.gen R2.tabs (r1.step (R.step a1).gen a2) r2 e fun v' H3 H3' a3 r3 => h2 v' H3 H3' a3 r3
  refine ⟨RE.eq hp fun env => by simp only [ev], RT.eq (pt_of G hp fun _ => rfl) fun env => ?_, fun _ _ => rfl⟩
  simp only [evT, M.bd_assoc]
  congr 1; funext x; congr 1; funext y
  rw [M.ofO_bd]
  cases ixD x y <;> rfl
def optV : Hp → Hp → Option Int → Option Int → Prop := fun _ _ a b => a = b
structure SO (X : Cx) (S : Sig) (W : WX) (F : Fns) (e : Option Expr) (c : Option E) : Prop where
  po : PO X e (RX S W optV (evO F c))
theorem toInt_bd {x : Vl} {g : Gen} {H1 H1' : Hp} {v : V} {α β : Type} {rel : Hp → Hp → β → α → Prop} {σ : L2.St} {Q : β → Hp → Prop} {kt : Int → M α} (r : VR S H1 H1' v x)
    (h : Pst S W σ H1 H1' rel Q (((toInt x).bd kt) g)) : ∃ i, v = .int i ∧ x = .d (.int i) ∧ Pst S W σ H1 H1' rel Q (kt i g) := by
  unfold toInt at h
  split at h
  · cases r; exact ⟨_, rfl, rfl, h⟩
  · exact h.elim
theorem po_weak {e : Option Expr} {t t' : TO} (h : PO X e t) (w : ∀ σ H Q, t' σ H Q → t σ H Q) : PO X e t' := ⟨fun pins s σ H Q I q => h.run pins s σ H Q I (w σ H Q q)⟩
theorem so_none : SO X S W F none none := ⟨po_weak po_none fun σ H Q h => by
  obtain ⟨env, g, He, H0e, H0, R, h⟩ := h
  simp only [evO] at h
  exact h none H0 H (Aft.refl R) rfl⟩
theorem so_some {e : Expr} {c : E} (he : SE X S W F e c) : SO X S W F (some e) (some c) := ⟨po_weak (po_some he.pe) fun σ H Q h => by
  obtain ⟨env, g, He, H0e, H0, R, h⟩ := h
  simp only [evO] at h
  refine ⟨env, g, He, H0e, H0, R, Pst.bd h fun x g1 v H1 H1' a1 r1 h1 => ?_⟩
  obtain ⟨i, e1, _, h1⟩ := toInt_bd r1 h1
  exact ⟨i, e1, h1 _ H1 H1' (Aft.refl (R.step a1)) rfl⟩⟩
theorem s_sl {a : Expr} {lo hi : Option Expr} {pos p2 : Pos} {ca : E} {cl ch : Option E} (G : Gd X S W C F) (ha : SE X S W F a ca) (hl : SO X S W F lo cl) (hh : SO X S W F hi ch) : SE X S W F (.Subscript a (.Slice lo hi none p2) pos) (.sl ca cl ch) := by
  refine ⟨PE.weak (pe_slice sl_any ha.pe hl.po hh.po) fun σ H Q h => ?_, ?_, fun _ _ => rfl⟩
  · simp only [ev] at h
    obtain ⟨env, g, He, H0e, H0, R, h⟩ := h
    refine ⟨env, g, He, H0e, H0, R, Pst.bd h fun x g1 v H1 H1' a1 r1 h1 => ?_⟩
    refine ⟨env, g1, He, H0e, H1, R.step a1, Pst.bd h1 fun l g2 l' H2 H2' a2 r2 h2 => ?_⟩
    have r2 : l' = l := r2
    subst r2
    have R2 := (R.step a1).step a2
    refine ⟨env, g2, He, H0e, H2, R2, Pst.bd h2 fun u g3 u' H3 H3' a3 r3 h3 => ?_⟩
    have r3 : u' = u := r3
    subst r3
    have R3 := R2.step a3
    cases e : slD x l' u' with
    | none => rw [e] at h3; exact h3.elim
    | some z =>
      rw [e] at h3
      rw [G.hK]
      exact op_sl R3.sub R3.gen R3.tabs ((r1.step (R.step a1).gen a2).step R2.gen a3) e fun v' H4 H4' a4 r4 => h3 v' H4 H4' a4 r4
  · refine ⟨fun pins s σ H Q I q => ?_⟩
    simp only [evT] at q
    obtain ⟨env, g, He, H0e, H0, R, q⟩ := q
    exact q.elim
/-! ### -a -/
theorem s_neg {a : Expr} {pos : Pos} {ca : E} (G : Gd X S W C F) (ha : SE X S W F a ca) : SE X S W F (.UnaryOp .USub a pos) (.neg ca) := by
  refine ⟨PE.weak (pe_un un_neg ha.pe) fun σ H Q h => ?_, ?_, fun _ _ => rfl⟩
  · simp only [ev] at h
    obtain ⟨env, g, He, H0e, H0, R, h⟩ := h
    refine ⟨env, g, He, H0e, H0, R, Pst.bd h fun x g1 v H1 H1' a1 r1 h1 => ?_⟩
    obtain ⟨i, e1, _, h1⟩ := toInt_bd r1 h1
    exact ⟨i, e1, h1 _ H1 H1' (Aft.refl (R.step a1)) (Dr.int _)⟩
  · refine ⟨fun pins s σ H Q I q => ?_⟩
    simp only [evT] at q
    obtain ⟨env, g, He, H0e, H0, R, q⟩ := q
    exact q.elim
/-! ### built-ins of values -/
theorem s_bf {f : Str} {b : Bf} {es : List Expr} {cs : List E} {p pos : Pos} {v : Value} (G : Gd X S W C F) (hg : glB C.sc f = true) (hb : f = bfName b) (hv : bfV b = some v) (hne : es ≠ []) (h : SEs X S W F es cs) :
    SE X S W F (.Call (.Name f p) es [] pos) (.bf b cs) := by
  have hp : PE X (.Call (.Name f p) es [] pos) (RE S W fun env => (evs F cs env).bd fun xs => .ofO ((bfD b xs).map .d)) := by
    have hu : X.A.units + 100 < cLine := by have := G.room.un; omega
    have hr := callR_bf (X := X) G.sys G.guards hu G.calm b v hv
    have gl : Gl X f := gl_of G.hsc hg
    have mgf : X.mg f = none := G.blt f (by rw [hb]; cases b <;> simp [bfName, bltNames])
    obtain ⟨e0, er, rfl⟩ : ∃ e0 er, es = e0 :: er := by
      cases es with
      | nil => exact absurd rfl hne
      | cons a b => exact ⟨a, b, rfl⟩
    have hpa := h.pa
    have hns : starEach (e0 :: er) X.env = (false, eval e0 X.env) :: starEach er X.env := by
      cases h with
      | cons h1 _ => exact h1.ns _ _
    have hpl : (backTo pos (starEach er X.env)).any (·.1) = false := by
      cases h with
      | cons _ h2 => exact h2.plain pos X.env
    have key : PE X (.Call (.Name f p) (e0 :: er) [] pos) (tCB (rBf (kx X) b) (RA S W (evs F cs))) := by
      cases b with
      | len => cases hv; subst hb; exact pe_callB hr gl mgf (by decide +kernel) hpa (he := hns) (hpl := hpl)
      | tuple => cases hv; subst hb; exact pe_callTy hr gl mgf (by decide +kernel) hpa (he := hns) (hpl := hpl)
      | list => cases hv; subst hb; exact pe_callTy hr gl mgf (by decide +kernel) hpa (he := hns) (hpl := hpl)
      | repr => cases hv; subst hb; exact pe_callB hr gl mgf (by decide +kernel) hpa (he := hns) (hpl := hpl)
      | int => cases hv; subst hb; exact pe_callTy hr gl mgf (by decide +kernel) hpa (he := hns) (hpl := hpl)
      | all => cases hv; subst hb; exact pe_callB hr gl mgf (by decide +kernel) hpa (he := hns) (hpl := hpl)
      | min2 => cases hv; subst hb; exact pe_callB hr gl mgf (by decide +kernel) hpa (he := hns) (hpl := hpl)
      | isinst ts => cases hv
    refine PE.weak key fun σ H Q h => ?_
    obtain ⟨env, g, He, H0e, H0, R, h⟩ := h
    refine ⟨env, g, He, H0e, H0, R, Pst.bd h fun xs g1 vs H1 H1' a1 r1 h1 => ?_⟩
    have R1 := R.step a1
    cases e : bfD b xs with
    | none => rw [e] at h1; exact h1.elim
    | some z =>
      rw [e] at h1
      rw [G.kx]
      exact op_bf hv R1.sub R1.gen R1.tabs r1 e fun v' H2 H2' a2 r2 => h1 v' H2 H2' a2 r2
  refine ⟨RE.eq hp fun env => by simp only [ev], RT.eq (pt_of G hp fun _ => rfl) fun env => ?_, fun _ _ => rfl⟩
  simp only [evT, M.bd_assoc]
  congr 1; funext xs
  rw [M.ofO_bd]
  cases bfD b xs <;> rfl
end
end PD
set_option Elab.async false
set_option linter.all false
set_option maxRecDepth 100000
set_option autoImplicit false
namespace PD
open PySem PySem.Spec L2

/-! ### calls of defs -/
section
variable {X : Cx} {CX : CXT} {k : Nat} {f : Addr} {fd : FuncData} {ps : List Str} {sp : Sp} {E : L2.St → XK} {x : Str} {p pos : Pos} {e : Expr} {es : List Expr} {t : TA}
theorem run_fnG {pins : List (Addr × Obj)} {σ : L2.St} {H : Hp} {s : Shared} {Q : VK} {us : List Value} {vs : List V} (F : FnG X.prog X.w X.K X.mg X.base CX k f fd ps sp) (hr : Room k X.A) (hgd : X.A.guards = some []) (hb : Binds X.K fd ps []) (hx : PassesAt CX X σ (E σ))
    (I : Inv X pins σ H s) (r : Vals vs us) (h : sp vs H Q (E σ)) : wpAny (model X.prog X.w) X.A (call (.ref f) us) (EP X pins σ Q) X.xe s := by
  have hl : us.length = ps.length := by rw [← r.length]; exact F.len _ _ _ _ h
  have b := hb s us I.kIn (by rw [List.append_nil]; exact hl)
  rw [List.append_nil] at b
  refine wpAny_call (codeAny_mono (F.run X.A X.stack s H ⟨us, []⟩ us vs Q (E σ) hr hgd I.env0 b r h) fun r s' hq => ?_)
  cases r with
  | error e => exact hx pins H s e s' I hq
  | ok fl =>
    cases fl with
    | ret u => exact I.after hq
    | next => exact False.elim hq
    | brk => exact False.elim hq
    | cont => exact False.elim hq
theorem pe_callG (F : FnG X.prog X.w X.K X.mg X.base CX k f fd ps sp) (hr : Room k X.A) (hgd : X.A.guards = some []) (hg : Gl X x) (hm : X.mg x = some (.ref f)) (hk : PySem.W.keepIn X.K (.ref f) = true) (hb : Binds X.K fd ps []) (hx : ∀ σ, PassesAt CX X σ (E σ))
    (ha : PA X (e :: es) t) (hdb : (x == ("__debug__" : Str)) = false) (he : starEach (e :: es) X.env = (false, eval e X.env) :: starEach es X.env) (hpl : (backTo pos (starEach es X.env)).any (·.1) = false) :
    PE X (.Call (.Name x p) (e :: es) [] pos) (tCallS sp E t) := by
  refine ⟨fun pins s σ H Q I h => ?_⟩
  refine wpAny_Call_Name_kw (ld_glob I hg hm ?_ hdb)
  refine PySem.W.callWith_K (h₀ := X.base) I.ok.mod.kin hk (thn (ha.run pos pins s σ H _ I h) fun us s1 ⟨vs, H1, I1, r, q⟩ => ⟨I1.kIn, ?_⟩) he hpl
  exact run_fnG F hr hgd hb (hx σ) I1 r q
theorem pe_callG0 (F : FnG X.prog X.w X.K X.mg X.base CX k f fd ps sp) (hr : Room k X.A) (hgd : X.A.guards = some []) (hg : Gl X x) (hm : X.mg x = some (.ref f)) (hk : PySem.W.keepIn X.K (.ref f) = true) (hb : Binds X.K fd ps []) (hx : ∀ σ, PassesAt CX X σ (E σ))
    (hdb : (x == ("__debug__" : Str)) = false) : PE X (.Call (.Name x p) [] [] pos) (tCallS sp E tNil) := by
  refine ⟨fun pins s σ H Q I h => ?_⟩
  refine wpAny_Call_Name_kw (ld_glob I hg hm ?_ hdb)
  exact PySem.W.callWith_K0 I.kIn hk (run_fnG (us := []) F hr hgd hb (hx σ) I .nil h)
end
section
variable {X : Cx} {S : Sig} {W : WX} {C : Cfg} {F : Fns}
theorem evs_len : ∀ {cs : List E} {env : Env} {g g' : Gen} {xs : List Vl}, evs F cs env g = .ok xs g' → xs.length = cs.length
  | [], env, g, g', xs, e => by
    simp only [evs] at e
    cases e; rfl
  | c :: cs, env, g, g', xs, e => by
    simp only [evs] at e
    unfold M.bd at e
    cases e1 : ev F c env g with
    | st => rw [e1] at e; cases e
    | er a b c => rw [e1] at e; cases e
    | ok x g1 =>
      rw [e1] at e
      dsimp only at e
      cases e2 : evs F cs env g1 with
      | st => rw [e2] at e; cases e
      | er a b c => rw [e2] at e; cases e
      | ok ys g2 =>
        rw [e2] at e
        cases e
        simp [evs_len e2]
/-- like Pst.bd, the equation told -/
theorem Pst.bdE {α β γ δ : Type} {S : Sig} {W : WX} {σ : L2.St} {H0 H : Hp} {rel : Hp → Hp → β → α → Prop} {rel' : Hp → Hp → δ → γ → Prop} {Q : δ → Hp → Prop} {Kt : β → Hp → Prop} {m : M α} {k : α → M γ} {g : Gen}
    (h : Pst S W σ H0 H rel' Q ((m.bd k) g))
    (hk : ∀ x g' v H0' H', m g = .ok x g' → Aft S g' H0 H H0' H' → rel H0' H' v x → Pst S W σ H0' H' rel' Q (k x g') → Kt v H') : Pst S W σ H0 H rel Kt (m g) := by
  unfold M.bd at h
  cases e : m g with
  | st => rw [e] at h; exact h
  | er c d g' => rw [e] at h; exact h
  | ok x g' =>
    rw [e] at h
    intro v H0' H' a r
    refine hk x g' v H0' H' e a r ?_
    have h : Pst S W σ H0 H rel' Q (k x g') := h
    cases e2 : k x g' with
    | st => rw [e2] at h; exact h
    | er c d g2 =>
      rw [e2] at h
      intro dx v2 H2 H3 a2 q1 q2
      exact h dx v2 H2 H3 (a.trans a2) q1 q2
    | ok y g2 =>
      rw [e2] at h
      intro v2 H2 H3 a2 q
      exact h v2 H2 H3 (a.trans a2) q
theorem fnIx_len : ∀ {fs : List (Str × Nat)} {f : Str} {n i : Nat}, fnIx fs f n = some i → True := fun _ => trivial
/-- a call's end, from the caller's side -/
theorem call_pst {m : M D} {g : Gen} {σ : L2.St} {H0 H : Hp} {Q : VK} (h : Pst S W σ H0 H (VR S) Q ((m.bd fun d => .pu (.d d)) g)) : Pst S (fun c d _ H => W c d σ H) [] H0 H (relR S) Q (m g) := by
  unfold M.bd at h
  cases e : m g with
  | st => rw [e] at h; exact h
  | er c d g' => rw [e] at h; exact h
  | ok x g' => rw [e] at h; exact h
theorem s_call {f : Str} {i : Nat} {es : List Expr} {cs : List E} {p pos : Pos} (G : Gd X S W C F) (hg : glB C.sc f = true) (hd : (!dbg f) = true) (hf : fnIx C.fns f cs.length = some i) (h : SEs X S W F es cs) :
    SE X S W F (.Call (.Name f p) es [] pos) (.call i cs) := by
  obtain ⟨k, fa, fd, ps, sp, FG, hr, hm, hk, hb, hsp⟩ := G.fns f _ i hf
  have gl : Gl X f := gl_of G.hsc hg
  have fin : ∀ {σ : L2.St} {H : Hp} {Q : VK}, RX S W (VR S) (fun env => (evs F cs env).bd fun xs => (F.call i xs).bd fun d => .pu (.d d)) σ H Q → tCallS sp (WE W) (RA S W (evs F cs)) σ H Q := by
    intro σ H Q h
    obtain ⟨env, g, He, H0e, H0, R, h⟩ := h
    refine ⟨env, g, He, H0e, H0, R, Pst.bdE h fun xs g1 vs H1 H1' e a1 r1 h1 => ?_⟩
    have R1 := R.step a1
    exact hsp vs xs g1 H1 H1' Q _ (evs_len e) R1.sub R1.ngen R1.ntbl R1.gen R1.tabs r1 (call_pst h1)
  have hp : PE X (.Call (.Name f p) es [] pos) (RE S W fun env => (evs F cs env).bd fun xs => (F.call i xs).bd fun d => .pu (.d d)) := by
    cases h with
    | nil =>
      refine PE.weak (pe_callG0 FG hr G.guards gl hm hk hb (fun σ => passAt G.tk σ) (dbg_of hd).1) fun σ H Q h => ?_
      obtain ⟨env, g, He, H0e, H0, R, h⟩ := fin h
      simp only [evs] at h
      exact h [] H0 H (Aft.refl R) .nil
    | cons h1 h2 => exact PE.weak (pe_callG FG hr G.guards gl hm hk hb (fun σ => passAt G.tk σ) (SEs.cons h1 h2).pa (dbg_of hd).1 (h1.ns _ _) (h2.plain _ _)) fun σ H Q h => fin h
  refine ⟨RE.eq hp fun env => by simp only [ev], RT.eq (pt_of G hp fun _ => rfl) fun env => ?_, fun _ _ => rfl⟩
  simp only [evT, M.bd_assoc]
  congr 1
end
end PD
set_option Elab.async false
set_option linter.all false
set_option maxRecDepth 100000
set_option autoImplicit false
namespace PD
open PySem PySem.Spec L2

/-! ### isinstance -/
theorem tyX_of {K : KW} {H : Hp} {v : V} {d : D} (r : Dr K H v d) : TyX K H v (.type (tyS d)) := by
  cases r with
  | non => exact .base .non
  | bl b => exact .base (.bl b)
  | int i => exact .base (.int i)
  | str x => exact .base (.str x)
  | lst h hs => exact .base (.lst h)
  | tup h hs =>
    rcases h with (h | ⟨o, h⟩) | ⟨o, its, n, h1, h2, _⟩
    · exact .base (.tup h)
    · exact .fTuple h
    · exact .kTuple h1 h2
  | dct h hs => exact .fDict h
def tyNames : List String := ["str", "int", "bool", "tuple", "list"]
def tyAll : List String := ["NoneType", "bool", "int", "str", "list", "tuple", "dict"]
theorem kit_tab : ∀ a ∈ tyAll, ∀ b ∈ tyNames, kitB a b = some (tySub a b) := by decide +kernel
theorem tyS_in (d : D) : tyS d ∈ tyAll := by cases d <;> simp [tyS, tyAll]
theorem kit_of_ty {K : PySem.W.Frag} {d : D} {t : String} (h : t ∈ tyNames) : PySem.W.kitOne K (.type (tyS d)) (.type t) = some (tySub (tyS d) t) := kit_ty (kit_tab _ (tyS_in d) _ h)
theorem kitAny_of {K : PySem.W.Frag} {d : D} : ∀ {ts : List String}, (∀ t ∈ ts, t ∈ tyNames) → PySem.W.kitAny K (.type (tyS d)) (ts.map Value.type) = some (ts.any fun t => tySub (tyS d) t)
  | [], _ => rfl
  | t :: ts, h => by
    have h1 := kit_of_ty (K := K) (d := d) (h t (List.mem_cons_self ..))
    have h2 := kitAny_of (K := K) (d := d) (ts := ts) fun t' ht => h t' (List.mem_cons_of_mem _ ht)
    rw [List.map_cons, List.any_cons]
    unfold PySem.W.kitAny
    rw [h1]
    cases tySub (tyS d) t with
    | true => rfl
    | false => exact h2
section
variable {X : Cx} {S : Sig} {W : WX} {C : Cfg} {F : Fns}
theorem tyName_inv {e : Expr} {t : String} (G : Gd X S W C F) (h : tyName e C = some t) : t ∈ tyNames ∧ PE X e (tC (.ty t)) ∧ ∀ (rest : List Expr) (env : PySem.Env), starEach (e :: rest) env = (false, eval e env) :: starEach rest env := by
  cases e with
  | Name x pos =>
    have h : (if glB C.sc x = true then (if x = "str" then some "str" else if x = "int" then some "int" else if x = "bool" then some "bool" else if x = "tuple" then some "tuple" else if x = "list" then some "list" else none) else none) = some t := h
    split at h
    · rename_i hg
      have gl : Gl X x := gl_of G.hsc hg
      split at h
      · rename_i e; cases h; subst e
        exact ⟨by simp [tyNames], pe_bltn gl (G.blt _ (by simp [bltNames])) (by decide +kernel) rfl, fun _ _ => rfl⟩
      · split at h
        · rename_i e; cases h; subst e
          exact ⟨by simp [tyNames], pe_bltn gl (G.blt _ (by simp [bltNames])) (by decide +kernel) rfl, fun _ _ => rfl⟩
        · split at h
          · rename_i e; cases h; subst e
            exact ⟨by simp [tyNames], pe_bltn gl (G.blt _ (by simp [bltNames])) (by decide +kernel) rfl, fun _ _ => rfl⟩
          · split at h
            · rename_i e; cases h; subst e
              exact ⟨by simp [tyNames], pe_bltn gl (G.blt _ (by simp [bltNames])) (by decide +kernel) rfl, fun _ _ => rfl⟩
            · split at h
              · rename_i e; cases h; subst e
                exact ⟨by simp [tyNames], pe_bltn gl (G.blt _ (by simp [bltNames])) (by decide +kernel) rfl, fun _ _ => rfl⟩
              · cases h
    · cases h
  | _ => cases h
theorem s_isi1 {f : Str} {a b : Expr} {ca : E} {p pos : Pos} {t : String} (G : Gd X S W C F) (hg : glB C.sc f = true) (hf : f = "isinstance") (ha : SE X S W F a ca) (hb : tyName b C = some t) :
    SE X S W F (.Call (.Name f p) [a, b] [] pos) (.bf (.isinst [t]) [ca]) := by
  subst hf
  obtain ⟨ht, hpe, hns⟩ := tyName_inv G hb
  have hp : PE X (.Call (.Name "isinstance" p) [a, b] [] pos) (RE S W fun env => (evs F [ca] env).bd fun xs => .ofO ((bfD (.isinst [t]) xs).map .d)) := by
    have hst : starEach [b] X.env = (false, eval b X.env) :: starEach [] X.env := hns _ _
    have hpl : (backTo pos (starEach [b] X.env)).any (·.1) = false := by rw [hst]; simp [backTo, starEach]
    refine PE.weak (pe_callB call_isi (gl_of G.hsc hg) (G.blt _ (by simp [bltNames])) (by decide +kernel) (pa_cons ha.pe (pa_cons hpe pa_nil hst) (ha.ns _ _)) (he := ha.ns _ _) (hpl := hpl)) fun σ H Q h => ?_
    obtain ⟨env, g, He, H0e, H0, R, h⟩ := h
    simp only [evs, M.bd_assoc, M.pu_bd] at h
    refine ⟨env, g, He, H0e, H0, R, Pst.bd h fun x g1 v H1 H1' a1 r1 h1 => ?_⟩
    cases ea : asD x with
    | none => simp only [bfD, ea] at h1; exact h1.elim
    | some d =>
      simp only [bfD, ea, Option.bind, bf1] at h1
      refine ⟨v, .ty t, .type (tyS d), .type t, _, rfl, .ty t, ?_, kit_of_ty (d := d) ht, ?_⟩
      · rw [G.hK]; exact tyX_of (r1.full a1.sub ea)
      · have h2 := h1 (.bl _) H1 H1' (Aft.refl (R.step a1)) (Dr.bl _)
        simpa using h2
  refine ⟨RE.eq hp fun env => by simp only [ev], RT.eq (pt_of G hp fun _ => rfl) fun env => ?_, fun _ _ => rfl⟩
  simp only [evT, M.bd_assoc]
  congr 1; funext xs
  rw [M.ofO_bd]
  cases bfD (.isinst [t]) xs <;> rfl
theorem tys_pa (G : Gd X S W C F) : ∀ {es : List Expr} {ts : List String}, es.mapM (fun t => tyName t C) = some ts → (∀ t ∈ ts, t ∈ tyNames) ∧ ∃ t : TA, PA X es t ∧ (∀ σ H Q, Q (ts.map V.ty) H → t σ H Q) ∧ (∀ (pos : Pos) (env : PySem.Env), (backTo pos (starEach es env)).any (·.1) = false)
  | [], ts, e => by
    have e : some [] = some ts := by simpa using e
    cases e
    exact ⟨fun _ h => absurd h (by simp), tNil, pa_nil, fun _ _ _ h => h, fun _ _ => by simp [starEach, backTo]⟩
  | b :: bs, ts, e => by
    rw [List.mapM_cons] at e
    cases e1 : tyName b C with
    | none => rw [e1] at e; cases e
    | some t =>
      cases e2 : bs.mapM (fun t => tyName t C) with
      | none => rw [e1, e2] at e; cases e
      | some ts' =>
        rw [e1, e2] at e
        have e3 : t :: ts' = ts := Option.some.inj e
        subst e3
        obtain ⟨h1, h2, h3⟩ := tyName_inv G e1
        obtain ⟨k1, u, k2, k3, k4⟩ := tys_pa G e2
        refine ⟨fun t' ht' => ?_, tCons (tC (.ty t)) u, pa_cons h2 k2 (h3 _ _), fun σ H Q q => k3 σ H _ q, fun pos env => ?_⟩
        · rcases List.mem_cons.mp ht' with rfl | z
          · exact h1
          · exact k1 _ z
        · rw [h3]
          have := k4 pos env
          unfold backTo at this ⊢
          simp only [List.map_cons, List.any_cons, this, Bool.or_self]
theorem clsVs : ∀ ts : List String, Paired ClsV (ts.map V.ty) (ts.map Value.type)
  | [] => .nil
  | t :: ts => .cons (.ty t) (clsVs ts)
theorem s_isi2 {f : Str} {a : Expr} {bs : List Expr} {ca : E} {p pos pt : Pos} {kt : Nat} {ts : List String} (G : Gd X S W C F) (hg : glB C.sc f = true) (hf : f = "isinstance") (ha : SE X S W F a ca) (hb : bs.mapM (fun t => tyName t C) = some ts) (hl : ts.length ≤ 10) :
    SE X S W F (.Call (.Name f p) [a, .Tuple bs kt pt] [] pos) (.bf (.isinst ts) [ca]) := by
  subst hf
  obtain ⟨k1, u, k2, k3, k4⟩ := tys_pa G hb
  have hp : PE X (.Call (.Name "isinstance" p) [a, .Tuple bs kt pt] [] pos) (RE S W fun env => (evs F [ca] env).bd fun xs => .ofO ((bfD (.isinst ts) xs).map .d)) := by
    have hpl : (backTo pos (starEach [.Tuple bs kt pt] X.env)).any (·.1) = false := rfl
    refine PE.weak (pe_callB call_isiT (gl_of G.hsc hg) (G.blt _ (by simp [bltNames])) (by decide +kernel) (pa_cons ha.pe (pa_cons (pe_tup k2) pa_nil) (ha.ns _ _)) (he := ha.ns _ _) (hpl := hpl)) fun σ H Q h => ?_
    obtain ⟨env, g, He, H0e, H0, R, h⟩ := h
    simp only [evs, M.bd_assoc, M.pu_bd] at h
    refine ⟨env, g, He, H0e, H0, R, Pst.bd h fun x g1 v H1 H1' a1 r1 h1 => ?_⟩
    refine k3 σ H1' _ ⟨by rw [List.length_map]; exact Nat.le_trans hl (by decide), fun q hq => ?_⟩
    have R1 := R.step a1
    have a2 := Aft.new (p := q) (o := .tup (ts.map V.ty)) R1.sub R1.gen R1.tabs hq (fun ps z => by cases z)
    cases ea : asD x with
    | none => simp only [bfD, ea] at h1; exact h1.elim
    | some d =>
      simp only [bfD, ea, Option.bind, bf1] at h1
      refine ⟨v, q, _, .type (tyS d), ts.map Value.type, _, rfl, upd_same, clsVs ts, ?_, kitAny_of (d := d) k1, ?_⟩
      · rw [G.hK]
        exact tyX_of ((r1.full a1.sub ea).same (same_new hq))
      · exact h1 (.bl _) _ _ a2 (Dr.bl _)
  refine ⟨RE.eq hp fun env => by simp only [ev], RT.eq (pt_of G hp fun _ => rfl) fun env => ?_, fun _ _ => rfl⟩
  simp only [evT, M.bd_assoc]
  congr 1; funext xs
  rw [M.ofO_bd]
  cases bfD (.isinst ts) xs <;> rfl
end
end PD
set_option Elab.async false
set_option linter.all false
set_option maxRecDepth 100000
set_option autoImplicit false
namespace PySem
open Sem (wp)
/-- enumerate(v), v told by what its iterator is -/
theorem pdm_enum_new {v : Value} {o : Obj} {H : Heap → Prop} (B : Begins v o H) :
    Meets (Builtin.«enumerate.__new__» ⟨[.type "enumerate", v], []⟩) (fun _ R s => H s.heap ∧
      R (.ok (.ret (.ref (s.heap.push o).objs.size)))
        { s with heap := (s.heap.push o).push { cls := .type "enumerate", data := .fields #[.none, .bool false, .ref s.heap.objs.size, rawInt 0, .none, .none] } }) :=
  .of_wp fun prog w A R s h => by
    obtain ⟨hp, g, d, tk, os⟩ := s
    obtain ⟨h1, h⟩ := h
    have hsub := sub_enumerate
    have q1 : ∀ {A' : Around} {E : Value → Shared → Prop} {Q : Value → Shared → Prop}, Q (.ref hp.objs.size) ⟨hp.push o, g, d, tk, os⟩ → wpAny (model prog w) A' (pyIter v) Q E ⟨hp, g, d, tk, os⟩ :=
      fun q => B.iter prog w _ _ ⟨hp, g, d, tk, os⟩ _ h1 q
    wp_walk using q1
    refine wpAny_stack_any fun st => wpAny_pure ?_
    split
    · rename_i c _ _ _ _ _
      cases (c == Value.type "enumerate")
      · wp_walk using q1
        exact ⟨_, rfl, h⟩
      · wp_walk using q1
        exact ⟨_, rfl, h⟩
    · wp_walk using q1
      exact ⟨_, rfl, h⟩
theorem pdm_enum {prog : Program} {w : World} {A : Around} {E : Value → Shared → Prop} {s : Shared} {v : Value} {o : Obj} {H : Heap → Prop} {Q : Value → Shared → Prop} (B : Begins v o H) (h1 : H s.heap)
    (h : ∀ h', IsEnum h' (s.heap.objs.size + 1) s.heap.objs.size 0 .none → h'.get? s.heap.objs.size = some o → h'.objs.size = s.heap.objs.size + 2 →
      (∀ b o, s.heap.get? b = some o → h'.get? b = some o) → Q (.ref (s.heap.objs.size + 1)) { s with heap := h' }) :
    wpAny (model prog w) A (call (.type "enumerate") [v]) Q E s := by
  refine callType_new F.called_enumerate (by decide) (F.typeCall_enumerate_1 _) (F.newCall_enumerate_1 _) (fun obj => F.args_object_init_2 obj _) F.entry_enumerate_new
    (pdm_enum_new B) ⟨h1, ?_⟩
  have hz : (s.heap.push o).objs.size = s.heap.objs.size + 1 := Heap.size_push ..
  show _ ∧ _
  rw [hz]
  have he : IsEnum ((s.heap.push o).push { cls := .type "enumerate", data := .fields #[.none, .bool false, .ref s.heap.objs.size, rawInt 0, .none, .none] }) (s.heap.objs.size + 1) s.heap.objs.size 0 .none := by
    have := Heap.get?_push_size (s.heap.push o) (o := { cls := .type "enumerate", data := .fields #[.none, .bool false, .ref s.heap.objs.size, rawInt 0, .none, .none] }) rfl
    rw [hz] at this; exact this
  refine ⟨⟨_, he, rfl⟩, h _ he (Heap.get?_push_of_some _ (Heap.get?_push_size _ B.free)) (by rw [Heap.size_push, hz]) fun b o x => Heap.get?_push_of_some _ (Heap.get?_push_of_some _ x)⟩
end PySem
namespace PD
open PySem PySem.Spec L2

/-- the tuple at a, each item in a new pair -/
def IteT (K : PySem.W.Frag) (a : Addr) : It :=
  ⟨fun i H => ∃ (xs : List V) (x : V), SqT K H a xs ∧ xs[i]? = some x, fun i H v H' => ∃ T x, v = .ref T ∧ H T = none ∧ H' = upd H T (.tup [.int (i : Nat), x]) ∧ ∀ xs, SqT K H a xs → xs[i]? = some x, fun i H => ∃ xs : List V, SqT K H a xs ∧ xs.length ≤ i⟩
theorem turn_enumT {P : Program} {w : World} {K : PySem.W.Frag} {elts : List Expr} {kk : Nat} {tpos : Pos} (a e it : Addr) (hea : e ≠ a) (hita : it ≠ a) :
    Turn P w K (.Tuple elts kk tpos) (IteT K a) [e, it] e (fun i h => (∃ old, IsEnum h e it ((i : Nat) : Int) old) ∧ h.IsTupleIter it a i ∧ e ≠ it) where
  mem := by simp
  obj := fun i h st b hb => by
    obtain ⟨⟨old, he⟩, ⟨o, ho, hc, hd⟩, _⟩ := st
    have e' : b = e ∨ b = it := by simpa using hb
    rcases e' with z | z
    · rw [z]; exact ⟨_, he, fun v q => nomatch q⟩
    · rw [z]; exact ⟨o, ho, fun v q => by rw [hd] at q; cases q⟩
  keep := fun i h h' st k => let ⟨⟨old, he⟩, hi, hne⟩ := st; ⟨⟨old, k e (by simp) _ he⟩, hi.at fun o q => k it (by simp) o q, hne⟩
  item := by
    intro X hP hw hK hc i pins s σ H E I hf st hg
    subst hP hw hK
    obtain ⟨⟨old, he⟩, hit, hne⟩ := st
    obtain ⟨xs, x, hq, hx⟩ := hg
    obtain ⟨its, rv, p, hz⟩ := I.tuple hq
    obtain ⟨u, hu, ru⟩ := rv.get hx
    have hel : e < s.heap.objs.size := Heap.lt_size he
    have hil : it < s.heap.objs.size := by obtain ⟨_, q, _⟩ := hit; exact Heap.lt_size q
    have hT : s.heap.IsTuple a its.toArray := p
    have D := Draws.tuple (prog := X.prog) (w := X.w) (A := X.A.in1) (I.ok.hd hc) it a (Ne.symm hita) its.toArray
    have hlt : i < its.toArray.size := by
      have := (List.getElem?_eq_some_iff.mp hu).1
      simpa using this
    refine wpAny_pyNext_enum_itemD D he ⟨hit, hT⟩ hlt hne (by simp [hne, hea]) fun x' h' tk hP ho hit' hT' hsz hk => ?_
    have ex : x' = u := by
      have h1 : its[i]? = some x' := by simpa using hP
      rw [hu] at h1; exact (Option.some.inj h1).symm
    subst ex
    refine ⟨_, rfl, wpAny_letOwnedTupleGo_enum (s := { s with heap := h', toks := tk + 1 }) ho fun h'' he' sb => ?_⟩
    have hT2 : h''.get? s.heap.objs.size = some { cls := .type "tuple", data := .seq #[.int i tk, x'] } := (sb.2 _ (Nat.ne_of_gt hel)).trans hT'
    have new : ObjOk X.prog X.w (upd H s.heap.objs.size (.tup [.int (i : Nat), x])) h'' s.heap.objs.size (.tup [.int (i : Nat), x]) :=
      ⟨by show 2 ≤ sizeLine; decide, [.int i tk, x'], .cons ⟨_, rfl⟩ (.cons ru .nil), ⟨_, hT2, rfl, _, rfl⟩⟩
    have I1 : Inv X pins σ (upd H s.heap.objs.size (.tup [.int (i : Nat), x])) { s with heap := h'', toks := tk + 1 } :=
      I.turnedNew (ch := [e, it]) (fun b ob hb q => (sb.2 b (fun z => hb (by simp [z]))).trans (hk b ob (fun z => hb (by simp [z])) (fun z => hb (by simp [z])) q)) hf (Nat.le_refl _) new
    refine ⟨.ref s.heap.objs.size, _, I1, rfl, ⟨_, x, rfl, I.hok.fresh (Nat.le_refl _), rfl, fun ys hy => by rw [I.tuple_inj hy hq]; exact hx⟩, ⟨⟨x', ?_⟩, hit'.1.at fun o q => (sb.2 it (Ne.symm hne)).trans q, hne⟩, fun b hb => ?_⟩
    · have e1 : ((i + 1 : Nat) : Int) = (i : Int) + 1 := by omega
      rw [e1]; exact he'
    · have hb' : b < s.heap.objs.size := by
        have e' : b = e ∨ b = it := by simpa using hb
        rcases e' with z | z
        · rw [z]; exact hel
        · rw [z]; exact hil
      rw [upd_ne (Nat.ne_of_lt hb')]
      exact (hf b hb).1
  done := by
    intro X hP hw hK hc i pins s σ H E I hf st hg
    subst hP hw hK
    obtain ⟨⟨old, he⟩, hit, hne⟩ := st
    obtain ⟨xs, hq, hx⟩ := hg
    obtain ⟨its, rv, p, hz⟩ := I.tuple hq
    obtain ⟨f0, f1, f2, f3, f4, f5⟩ := hf it (by simp)
    have hl := rv.length
    have hT : s.heap.IsTuple a its.toArray := p
    have hT0 : s.TypeIs (.ref e) "enumerate" := ⟨_, he, rfl⟩
    unfold pyNext
    refine wpAny_bind (wpAny_attempt (wpAny_callSpecial?_slot (name := Str.ofString "__next__") hT0 F.slot_enumerate_next
      (wpAny_call_entry F.slot_enumerate_next hT0 F.entry_enumerate_next ?_ (F.args_enumerate_next_1 _))))
    show wpAny _ _ (field (.ref e) 2 >>= _) _ _ _
    refine wpAny_bind (wpAny_field he rfl (x := .ref it) rfl ?_)
    refine wpAny_bind (wpAny_nextOf_tuple_end (I.ok.hd hc) hit hT (by simp; omega) fun h' x he' hx' => ?_)
    obtain ⟨o, ho, hcl⟩ := hx'
    refine wpAny_bind (wpAny_isInstance (T := "StopIteration") (b := true) ⟨o, ho, hcl⟩ isSubtype_stop ?_)
    exact wpAny_pure ⟨rfl, I.turned (t' := s.toks) (fun b o hb q => he' b o hb q) f0 f1 f3 f4 f5⟩
  self := fun A i s Q E st h => let ⟨⟨_, he⟩, _⟩ := st; wpAny_pyIter_enum he h
/-- enumerate of a list or a tuple -/
def iEnumA (K : PySem.W.Frag) (ta : TA) : TI := fun σ H R => ta σ H fun vs H1 => ∃ a, vs = [.ref a] ∧ ((∃ xs, SqL K H1 a xs ∧ R (Ite K a) H1) ∨ (∃ xs, SqT K H1 a xs ∧ R (IteT K a) H1))
theorem pi_enumA {X : Cx} {e : Expr} {ta : TA} {p pos tpos : Pos} {elts : List Expr} {kk : Nat} (hg : Gl X "enumerate") (hm : X.mg "enumerate" = none) (ha : PA X [e] ta) (hs : starEach [e] X.env = [(false, eval e X.env)]) :
    PI X (.Tuple elts kk tpos) (.Call (.Name "enumerate" p) [e] [] pos) (iEnumA X.K ta) := by
  refine ⟨fun pins s σ H R I h => ?_⟩
  refine PyProof.Rows.Call_ (ld_blt I hg hm PyProof.Rows.boot_enumerate (PyProof.Rows.callWith_type1 (thn (ha.run pos pins s σ H _ I h) fun us s1 ⟨vs, H1, I1, r1, q1⟩ => ?_) hs rfl))
  obtain ⟨a, ex, q⟩ := q1
  subst ex
  cases r1 with
  | cons r rr =>
    cases rr
    cases r
    rcases q with ⟨xs, hq, q⟩ | ⟨xs, hq, q⟩
    · obtain ⟨its, rv, p', hz⟩ := I1.list hq
      refine call_enumerate_list p'.isList fun h' he hit hsz hk => wpAny_pyIter_enum he ?_
      have I2 : Inv X pins σ H1 { s1 with heap := h' } := I1.kept (t' := s1.toks) hk
      refine ⟨s1.heap.objs.size + 1, [s1.heap.objs.size + 1, s1.heap.objs.size], _, _, H1, rfl, I2, turn_enum a (s1.heap.objs.size + 1) s1.heap.objs.size, ⟨⟨.none, he⟩, hit, Nat.succ_ne_self _⟩, fun b hb => ?_, q⟩
      have e' : b = s1.heap.objs.size + 1 ∨ b = s1.heap.objs.size := by simpa using hb
      have hle : s1.heap.objs.size ≤ b := by
        rcases e' with z | z
        · rw [z]; exact Nat.le_add_right _ _
        · rw [z]; exact Nat.le_refl _
      exact I1.fpOk hle (I1.hok.fresh hle)
    · obtain ⟨its, rv, p', hz⟩ := I1.tuple hq
      have hT : s1.heap.IsTuple a its.toArray := p'
      have hal : a < s1.heap.objs.size := by obtain ⟨o, ho, _⟩ := p'; exact Heap.lt_size ho
      refine pdm_enum (begins_tuple a its.toArray) hT fun h' he hit hsz hk => wpAny_pyIter_enum he ?_
      have I2 : Inv X pins σ H1 { s1 with heap := h' } := I1.kept (t' := s1.toks) hk
      refine ⟨s1.heap.objs.size + 1, [s1.heap.objs.size + 1, s1.heap.objs.size], _, _, H1, rfl, I2, turn_enumT a (s1.heap.objs.size + 1) s1.heap.objs.size (Nat.ne_of_gt (Nat.lt_succ_of_lt hal)) (Nat.ne_of_gt hal), ⟨⟨.none, he⟩, ⟨_, hit, rfl, rfl⟩, Nat.succ_ne_self _⟩, fun b hb => ?_, q⟩
      have e' : b = s1.heap.objs.size + 1 ∨ b = s1.heap.objs.size := by simpa using hb
      have hle : s1.heap.objs.size ≤ b := by
        rcases e' with z | z
        · rw [z]; exact Nat.le_add_right _ _
        · rw [z]; exact Nat.le_refl _
      exact I1.fpOk hle (I1.hok.fresh hle)
/-- over a list, a tuple, a locked dict -/
def iSeq (K : PySem.W.Frag) (tl : TE) : TI := fun σ H R => tl σ H fun x H1 => ∃ a, x = .ref a ∧ ((∃ xs, SqL K H1 a xs ∧ R (Itl K a) H1) ∨ (∃ xs, SqT K H1 a xs ∧ R (Itt K a) H1) ∨ ∃ o kvs, H1 a = some (.frz o (.dK kvs)) ∧ R (Itk a o kvs) H1)
theorem pi_seq {X : Cx} {tg l : Expr} {tl : TE} (hl : PE X l tl) : PI X tg l (iSeq X.K tl) := by
  refine ⟨fun pins s σ H R I h => ?_⟩
  refine thn (hl.run pins s σ H _ I h) fun v s1 ⟨x, H1, I1, r1, q1⟩ => ?_
  obtain ⟨a, e, q⟩ := q1
  subst e
  cases r1
  rcases q with ⟨xs, hq, q⟩ | ⟨xs, hq, q⟩ | ⟨o, kvs, hd, q⟩
  · obtain ⟨its, rv, p, hz⟩ := I1.list hq
    refine wpAny_pyIter_list p.isList ?_
    refine ⟨s1.heap.objs.size, [s1.heap.objs.size], _, _, H1, rfl, I1.kept (t' := s1.toks) fun b o e => Heap.get?_push_of_some _ e, turn_list a _, ⟨_, Heap.get?_push_size _ rfl, rfl, rfl⟩, fun b hb => ?_, q⟩
    have e : b = s1.heap.objs.size := by simpa using hb
    subst e
    exact I1.fpOk (Nat.le_refl _) (I1.hok.fresh (Nat.le_refl _))
  · obtain ⟨its, rv, p, hz⟩ := I1.tuple hq
    refine wpAny_pyIter_tuple (show s1.heap.IsTuple a its.toArray from p) ?_
    refine ⟨s1.heap.objs.size, [s1.heap.objs.size], _, _, H1, rfl, I1.kept (t' := s1.toks) fun b o e => Heap.get?_push_of_some _ e, turn_tuple a _, ⟨_, Heap.get?_push_size _ rfl, rfl, rfl⟩, fun b hb => ?_, q⟩
    have e : b = s1.heap.objs.size := by simpa using hb
    subst e
    exact I1.fpOk (Nat.le_refl _) (I1.hok.fresh (Nat.le_refl _))
  · obtain ⟨hs, hgd, hx, es, ep, vs, hdt, hsz, kv, hm⟩ := I1.frzK hd
    refine iter_keys hs hgd hx hdt (pi_one (tk := s1.toks) I1 _ (turn_keys _ hdt) ⟨_, Heap.get?_push_size _ rfl, rfl, ?_⟩ q)
    rw [hsz] <;> rfl
end PD
set_option Elab.async false
set_option linter.all false
set_option maxRecDepth 100000
set_option autoImplicit false
namespace PD
open PySem PySem.Spec L2

/-! ### the slots -/
section
variable {S : Sig} {env : Env} {g : Gen} {σ : L2.St} {He H0e H0 H : Hp}
theorem Rl.set (R : Rl S env g σ He H0e H0 H) {i : Nat} {v : V} {d : D} (hi : i < env.length) (hd : Dr S.K H0 v d) : Rl S (env.set i (.fz d)) g (σ.set i (some v)) He H0e H0 H := by
  have hσ : i < σ.length := by
    obtain ⟨o, h, _⟩ := R.slots i env[i] (by simp [hi])
    exact (List.getElem?_eq_some_iff.mp h).1
  refine ⟨R.stp, R.sub, R.gen, R.ngen, R.tabs, R.ntbl, fun j s e => ?_, fun j k a hne h1 h2 h3 => ?_⟩
  · by_cases hj : j = i
    · subst hj
      rw [List.getElem?_set_self hi] at e
      cases e
      exact ⟨some v, List.getElem?_set_self hσ, v, rfl, hd⟩
    · rw [List.getElem?_set_ne (Ne.symm hj)] at e
      obtain ⟨o, h1, h2⟩ := R.slots j s e
      exact ⟨o, by rw [List.getElem?_set_ne (Ne.symm hj)]; exact h1, h2⟩
  · have nj : ∀ {m : Nat}, Own (env.set i (.fz d)) m → m ≠ i ∧ Own env m := fun {m} e => by
      by_cases hm : m = i
      · subst hm
        unfold Own at e
        rw [List.getElem?_set_self hi] at e
        rcases e with ⟨_, e⟩ | ⟨_, e⟩ <;> cases e
      · unfold Own at e ⊢
        rw [List.getElem?_set_ne (Ne.symm hm)] at e; exact ⟨hm, e⟩
    obtain ⟨j1, j2⟩ := nj h1
    obtain ⟨k1, k2⟩ := nj h2
    rw [List.getElem?_set_ne (Ne.symm j1)] at h3
    rw [List.getElem?_set_ne (Ne.symm k1)]
    exact R.own j k a hne j2 k2 h3
/-- a slot forgotten -/
theorem Rl.un (R : Rl S env g σ He H0e H0 H) (i : Nat) (o : Option V) : Rl S (env.set i .un) g (σ.set i o) He H0e H0 H := by
  refine ⟨R.stp, R.sub, R.gen, R.ngen, R.tabs, R.ntbl, fun j s e => ?_, fun j k a hne h1 h2 h3 => ?_⟩
  · by_cases hj : j = i
    · subst hj
      have hi : j < env.length := by
        have := (List.getElem?_eq_some_iff.mp e).1
        simpa using this
      have hσ : j < σ.length := by
        obtain ⟨o, h, _⟩ := R.slots j env[j] (by simp [hi])
        exact (List.getElem?_eq_some_iff.mp h).1
      rw [List.getElem?_set_self hi] at e
      cases e
      exact ⟨o, List.getElem?_set_self hσ, trivial⟩
    · rw [List.getElem?_set_ne (Ne.symm hj)] at e
      obtain ⟨o', h1, h2⟩ := R.slots j s e
      exact ⟨o', by rw [List.getElem?_set_ne (Ne.symm hj)]; exact h1, h2⟩
  · have nj : ∀ {m : Nat}, Own (env.set i .un) m → m ≠ i ∧ Own env m := fun {m} e => by
      unfold Own at e ⊢
      by_cases hm : m = i
      · subst hm
        have hi : m < env.length := by
          rcases e with ⟨_, e⟩ | ⟨_, e⟩ <;> · have := (List.getElem?_eq_some_iff.mp e).1; simpa using this
        rw [List.getElem?_set_self hi] at e
        rcases e with ⟨_, e⟩ | ⟨_, e⟩ <;> cases e
      · rw [List.getElem?_set_ne (Ne.symm hm)] at e; exact ⟨hm, e⟩
    obtain ⟨j1, j2⟩ := nj h1
    obtain ⟨k1, k2⟩ := nj h2
    rw [List.getElem?_set_ne (Ne.symm j1)] at h3
    rw [List.getElem?_set_ne (Ne.symm k1)]
    exact R.own j k a hne j2 k2 h3
theorem Rl.wipe (R : Rl S env g σ He H0e H0 H) : ∀ w : List Nat, Rl S (wipeE env w) g (L2.wipe σ w) He H0e H0 H
  | [] => R
  | v :: w => (R.wipe w).un v none
end
theorem wipe_get (σ : L2.St) (j : Nat) : ∀ w : List Nat, (L2.wipe σ w)[j]? = if j ∈ w ∧ j < σ.length then some none else σ[j]?
  | [] => by simp [L2.wipe]
  | v :: w => by
    unfold L2.wipe
    by_cases hj : j = v
    · subst hj
      by_cases hl : j < σ.length
      · rw [List.getElem?_set_self (by rw [wipe_length]; exact hl)]
        simp [hl]
      · rw [List.getElem?_eq_none (by rw [List.length_set, wipe_length]; omega)]
        simp [hl]
    · rw [List.getElem?_set_ne (Ne.symm hj), wipe_get σ j w]
      simp [hj]
theorem wipe_eq {σ σ' : L2.St} {w is : List Nat} (hl : σ'.length = σ.length) (h : ∀ j, j ∉ is → σ'[j]? = σ[j]?) (hw : ∀ i ∈ is, i ∈ w) : L2.wipe σ' w = L2.wipe σ w := by
  apply List.ext_getElem?
  intro j
  rw [wipe_get, wipe_get, hl]
  by_cases hj : j ∈ w
  · by_cases hlt : j < σ.length
    · simp [hj, hlt]
    · simp only [hj, hlt, and_false, if_false]
      rw [List.getElem?_eq_none (by omega), List.getElem?_eq_none (by omega)]
  · simp only [hj, false_and, if_false]
    exact h j fun z => hj (hw j z)
theorem wipe_wipe (σ : L2.St) (w : List Nat) : L2.wipe (L2.wipe σ w) w = L2.wipe σ w := by
  apply List.ext_getElem?
  intro j
  rw [wipe_get, wipe_get, wipe_length]
  by_cases hj : j ∈ w ∧ j < σ.length
  · simp [hj]
  · simp [hj]

/-! ### targets -/
def gD (S : Sig) (t : Tg) : TG := fun v σ H Q => ∃ env g He H0e H0 d env', Rl S env g σ He H0e H0 H ∧ Dr S.K H0 v d ∧ setTg env t d = some env' ∧
  ∀ σ', σ'.length = σ.length → (∀ j, j ∉ tgIx t → σ'[j]? = σ[j]?) → Rl S env' g σ' He H0e H0 H → Q σ' H
def gDs (S : Sig) (is : List Nat) : TGs := fun vs σ H Q => ∃ env g He H0e H0 ds env', Rl S env g σ He H0e H0 H ∧ DrAll S.K H0 vs ds ∧ setTgs env is ds = some env' ∧
  ∀ σ', σ'.length = σ.length → (∀ j, j ∉ is → σ'[j]? = σ[j]?) → Rl S env' g σ' He H0e H0 H → Q σ' H
theorem PG.weak {X : Cx} {e : Expr} {t t' : TG} (h : PG X e t) (w : ∀ v σ H Q, t' v σ H Q → t v σ H Q) : PG X e t' := ⟨fun pins s σ H v u Q I r q => h.run pins s σ H v u Q I r (w v σ H Q q)⟩
theorem PGs.weak {X : Cx} {e : List Expr} {t t' : TGs} (h : PGs X e t) (w : ∀ v σ H Q, t' v σ H Q → t v σ H Q) : PGs X e t' := ⟨fun pins s σ H v u Q I r q => h.run pins s σ H v u Q I r (w v σ H Q q)⟩
/-- what may be stored to: the slots of a cfg -/
def StOk (X : Cx) (C : Cfg) : Prop := ∀ x i, C.slot x = some i → X.N[i]? = some x ∧ Loc X.env.scope x ∧ (X.fn x = true ∨ X.env.scope.names.lookup x = some .local)
section
variable {X : Cx} {S : Sig} {C : Cfg}
theorem g_name {x : Str} {pos : Pos} {i : Nat} (hN : X.N.Nodup) (K : StOk X C) (h : C.slot x = some i) : PG X (.Name x pos) (gD S (.n i)) := by
  obtain ⟨h1, h2, h3⟩ := K x i h
  refine PG.weak (pg_name hN h1 h2 h3) fun v σ H Q q => ?_
  obtain ⟨env, g, He, H0e, H0, d, env', R, hd, e, q⟩ := q
  have e : (if i < env.length then some (env.set i (.fz d)) else none) = some env' := e
  obtain ⟨hi, rfl⟩ := ifO e
  refine q _ (by simp) (fun j hj => ?_) (R.set hi hd)
  rw [List.getElem?_set_ne (by intro z; exact hj (by simp [tgIx, z]))]
theorem g_names (hN : X.N.Nodup) (K : StOk X C) : ∀ {es : List Expr} {is : List Nat}, es.mapM C.slotE = some is → PGs X es (gDs S is) ∧ (assignEach es X.env).length = is.length ∧ (assignEach es X.env).findIdx? (·.1) = none
  | [], is, e => by
    have e : some [] = some is := by simpa using e
    cases e
    refine ⟨PGs.weak pgs_nil fun vs σ H Q q => ?_, rfl, rfl⟩
    obtain ⟨env, g, He, H0e, H0, ds, env', R, hd, e, q⟩ := q
    cases ds with
    | nil => cases hd; cases e; exact ⟨rfl, q σ rfl (fun _ _ => rfl) R⟩
    | cons d ds => cases e
  | e :: es, is, h => by
    rw [List.mapM_cons] at h
    cases e1 : C.slotE e with
    | none => rw [e1] at h; cases h
    | some i =>
      cases e2 : es.mapM C.slotE with
      | none => rw [e1, e2] at h; cases h
      | some is' =>
        rw [e1, e2] at h
        have e3 : i :: is' = is := Option.some.inj h
        subst e3
        cases e with
        | Name x pos =>
          have e1 : C.slot x = some i := e1
          obtain ⟨k1, k2, k3⟩ := g_names hN K e2
          refine ⟨PGs.weak (pgs_cons (g_name (S := S) hN K e1) k1 rfl) fun vs σ H Q q => ?_, by show (_ :: _).length = _; simp [k2], ?_⟩
          · obtain ⟨env, g, He, H0e, H0, ds, env', R, hd, e, q⟩ := q
            cases hd with
            | nil => cases e
            | @cons v vs d ds h1 h2 =>
              have e : (if i < env.length then setTgs (env.set i (.fz d)) is' ds else none) = some env' := e
              split at e
              · rename_i hi
                refine ⟨v, vs, rfl, env, g, He, H0e, H0, d, env.set i (.fz d), R, h1, if_pos hi, fun σ1 l1 s1 R1 => ?_⟩
                refine ⟨_, g, He, H0e, H0, ds, env', R1, h2, e, fun σ2 l2 s2 R2 => ?_⟩
                refine q σ2 (l2.trans l1) (fun j hj => ?_) R2
                rw [s2 j fun z => hj (List.mem_cons_of_mem _ z), s1 j fun z => hj (by
                  have : j = i := by simpa [tgIx] using z
                  simp [this])]
              · cases e
          · show List.findIdx? _ ((false, _) :: _) = none
            rw [List.findIdx?_cons]
            have k3' : (assignEach es X.env).findIdx? (·.1) = none := k3
            simp [k3']
        | _ => cases e1
theorem g_tg {tg : Expr} {t : Tg} (hN : X.N.Nodup) (hc : X.calm = true) (hK : X.K = S.K) (K : StOk X C) (h : cTg C tg = some t) : PG X tg (gD S t) := by
  cases tg with
  | Name x pos =>
    have h : (C.slot x).map Tg.n = some t := h
    cases e : C.slot x with
    | none => rw [e] at h; cases h
    | some i => rw [e] at h; cases h; exact g_name hN K e
  | Tuple es k pos =>
    have h : (es.mapM C.slotE).map Tg.t = some t := h
    cases e : es.mapM C.slotE with
    | none => rw [e] at h; cases h
    | some is =>
      rw [e] at h; cases h
      obtain ⟨k1, k2, k3⟩ := g_names (S := S) hN K e
      refine PG.weak (pg_tup hc k1 k2 k3) fun v σ H Q q => ?_
      obtain ⟨env, g, He, H0e, H0, d, env', R, hd, e, q⟩ := q
      cases d with
      | tuple ds =>
        have e : setTgs env is ds = some env' := e
        obtain ⟨a, xs, rfl, h1, h2⟩ := hd.tup_inv
        have hlen : ∀ (is : List Nat) (ds : List D) (env : Env), setTgs env is ds = some env' → ds.length = is.length := by
          intro is
          induction is with
          | nil => intro ds env e; cases ds with
            | nil => rfl
            | cons _ _ => cases e
          | cons i is ih => intro ds env e; cases ds with
            | nil => cases e
            | cons d ds =>
              have e : (if i < env.length then setTgs (env.set i (.fz d)) is ds else none) = some env' := e
              split at e
              · simp [ih _ _ e]
              · cases e
        refine ⟨a, xs, rfl, ?_, by rw [h2.length]; exact hlen _ _ _ e, env, g, He, H0e, H0, ds, env', R, h2, e, fun σ' l s R' => q σ' l s R'⟩
        rw [hK]
        exact sqT_same R.sub h1
      | _ => cases e
  | _ => cases h
end
end PD
set_option Elab.async false
set_option linter.all false
set_option maxRecDepth 100000
set_option autoImplicit false
namespace PD
open PySem PySem.Spec L2

/-! ### what is walked -/
/-- a list that is borrowed by a walk stands -/
def Hold (o : Option (Addr × List V)) (H : Hp) : Prop := match o with
  | none => True
  | some p => H p.1 = some (.lst p.2)
structure WkD (S : Sig) (J : It) (o : Option (Addr × List V)) (H0 : Hp) (ds : List D) : Prop where
  goes : ∀ (i : Nat) (H0c H : Hp), Same H0 H0c → Same H0c H → Hold o H → i < ds.length → J.go i H
  stops : ∀ (H0c H : Hp), Same H0 H0c → Same H0c H → Hold o H → J.stop ds.length H
  yields : ∀ (i : Nat) (d : D) (H0c H : Hp) (x : V) (H' : Hp), Same H0 H0c → Same H0c H → Hold o H → ds[i]? = some d → J.yld i H x H' →
    (H' = H ∧ Dr S.K H0c x d) ∨ ∃ p u, H p = none ∧ (∀ ps, u ≠ .tbl ps) ∧ H' = upd H p u ∧ Dr S.K (upd H0c p u) x d
theorem WkD.mono {S : Sig} {J : It} {o : Option (Addr × List V)} {H0 H0' : Hp} {ds : List D} (w : WkD S J o H0 ds) (s : Same H0 H0') : WkD S J o H0' ds :=
  ⟨fun i c H a => w.goes i c H (s.trans a), fun c H a => w.stops c H (s.trans a), fun i d c H x H' a => w.yields i d c H x H' (s.trans a)⟩
def relI (S : Sig) : Hp → Hp → It → List D → Prop := fun H0 H J ds => ∃ o, WkD S J o H0 ds ∧ Hold o H
theorem seq_elem {S : Sig} {H0 : Hp} {xs : List V} {ds : List D} (h : DrAll S.K H0 xs ds) {i : Nat} {d : D} {x : V} (e : ds[i]? = some d) (ex : xs[i]? = some x) : Dr S.K H0 x d := by
  obtain ⟨d', h1, h2⟩ := h.get ex
  rw [e] at h1; cases h1
  exact h2
theorem wk_tup {S : Sig} {a : Addr} {xs : List V} {H0 : Hp} {ds : List D} (h : SqT S.K H0 a xs) (hd : DrAll S.K H0 xs ds) : WkD S (Itt S.K a) none H0 ds := by
  refine ⟨fun i c H s1 s2 _ hi => ?_, fun c H s1 s2 _ => ⟨xs, sqT_same s2 (sqT_same s1 h), Nat.le_of_eq hd.length⟩, fun i d c H x H' s1 s2 _ e y => ?_⟩
  · have hx : i < xs.length := by rw [hd.length]; exact hi
    exact ⟨xs, xs[i], sqT_same s2 (sqT_same s1 h), by simp [hx]⟩
  · exact .inl ⟨y.1, (seq_elem hd e (y.2 xs (sqT_same s2 (sqT_same s1 h)))).same s1⟩
theorem wk_lst {S : Sig} {a : Addr} {xs : List V} {H0 : Hp} {ds : List D} (hd : DrAll S.K H0 xs ds) : WkD S (Itl S.K a) (some (a, xs)) H0 ds := by
  refine ⟨fun i c H s1 s2 h hi => ?_, fun c H s1 s2 h => ⟨xs, SqL.of h, Nat.le_of_eq hd.length⟩, fun i d c H x H' s1 s2 h e y => ?_⟩
  · have hx : i < xs.length := by rw [hd.length]; exact hi
    exact ⟨xs, xs[i], SqL.of h, by simp [hx]⟩
  · exact .inl ⟨y.1, (seq_elem hd e (y.2 xs (SqL.of h))).same s1⟩
theorem wk_lst0 {S : Sig} {a : Addr} {xs : List V} {H0 : Hp} {ds : List D} (h : H0 a = some (.lst xs)) (hd : DrAll S.K H0 xs ds) : WkD S (Itl S.K a) none H0 ds := by
  have w := wk_lst (S := S) (a := a) hd
  exact ⟨fun i c H s1 s2 _ => w.goes i c H s1 s2 (s2 _ _ (s1 _ _ h)), fun c H s1 s2 _ => w.stops c H s1 s2 (s2 _ _ (s1 _ _ h)), fun i d c H x H' s1 s2 _ => w.yields i d c H x H' s1 s2 (s2 _ _ (s1 _ _ h))⟩
theorem int_all {K : KW} {H : Hp} : ∀ (is : List Int), DrAll K H (is.map V.int) (is.map PyData.int)
  | [] => .nil
  | i :: is => .cons (.int i) (int_all is)
theorem wk_sq {S : Sig} {a : Addr} {xs : List V} {H0 : Hp} {ds : List D} (h : SqL S.K H0 a xs) (hd : DrAll S.K H0 xs ds) : WkD S (Itl S.K a) none H0 ds := by
  refine ⟨fun i c H s1 s2 _ hi => ?_, fun c H s1 s2 _ => ⟨xs, sqL_same s2 (sqL_same s1 h), Nat.le_of_eq hd.length⟩, fun i d c H x H' s1 s2 _ e y => ?_⟩
  · have hx : i < xs.length := by rw [hd.length]; exact hi
    exact ⟨xs, xs[i], sqL_same s2 (sqL_same s1 h), by simp [hx]⟩
  · exact .inl ⟨y.1, (seq_elem hd e (y.2 xs (sqL_same s2 (sqL_same s1 h)))).same s1⟩
theorem enum_get : ∀ (ds : List D) (k i : Nat), (enumD k ds)[i]? = (ds[i]?).map fun d => .tuple [.int ((k + i : Nat) : Int), d]
  | [], k, i => by simp [enumD]
  | d :: ds, k, 0 => by simp [enumD]
  | d :: ds, k, i + 1 => by
    show (enumD (k + 1) ds)[i]? = _
    rw [enum_get ds (k + 1) i]
    simp only [List.getElem?_cons_succ]
    congr 1
    funext x
    congr 3
    omega
theorem enum_len : ∀ (ds : List D) (k : Nat), (enumD k ds).length = ds.length
  | [], _ => rfl
  | _ :: ds, k => by simp [enumD, enum_len ds]
theorem pair_dr {S : Sig} {H0 : Hp} {T : Addr} {i : Int} {x : V} {d : D} (h0 : H0 T = none) (h : Dr S.K H0 x d) : Dr S.K (upd H0 T (.tup [.int i, x])) (.ref T) (.tuple [.int i, d]) :=
  .tup (SqT.of upd_same) (.cons (.int _) (.cons (h.same (same_new h0)) .nil))
theorem wk_enumT {S : Sig} {a : Addr} {xs : List V} {H0 : Hp} {ds : List D} (h : SqT S.K H0 a xs) (hd : DrAll S.K H0 xs ds) : WkD S (IteT S.K a) none H0 (enumD 0 ds) := by
  refine ⟨fun i c H s1 s2 _ hi => ?_, fun c H s1 s2 _ => ⟨xs, sqT_same s2 (sqT_same s1 h), by rw [enum_len]; exact Nat.le_of_eq hd.length⟩, fun i d c H x H' s1 s2 _ e y => ?_⟩
  · rw [enum_len] at hi
    have hx : i < xs.length := by rw [hd.length]; exact hi
    exact ⟨xs, xs[i], sqT_same s2 (sqT_same s1 h), by simp [hx]⟩
  · obtain ⟨T, z, rfl, hT, rfl, hz⟩ := y
    rw [enum_get] at e
    cases e1 : ds[i]? with
    | none => rw [e1] at e; cases e
    | some d1 =>
      rw [e1] at e
      have e2 : PyData.tuple [.int ((0 + i : Nat) : Int), d1] = d := Option.some.inj e
      subst e2
      have hz' := seq_elem hd e1 (hz xs (sqT_same s2 (sqT_same s1 h)))
      refine .inr ⟨T, _, hT, fun ps q => (by cases q), rfl, ?_⟩
      rw [Nat.zero_add]
      exact pair_dr (s2.free hT) (hz'.same s1)
theorem wk_enumL {S : Sig} {a : Addr} {xs : List V} {H0 : Hp} {ds : List D} (hd : DrAll S.K H0 xs ds) : WkD S (Ite S.K a) (some (a, xs)) H0 (enumD 0 ds) := by
  refine ⟨fun i c H s1 s2 h hi => ?_, fun c H s1 s2 h => ⟨xs, SqL.of h, by rw [enum_len]; exact Nat.le_of_eq hd.length⟩, fun i d c H x H' s1 s2 h e y => ?_⟩
  · rw [enum_len] at hi
    have hx : i < xs.length := by rw [hd.length]; exact hi
    exact ⟨xs, xs[i], SqL.of h, by simp [hx]⟩
  · obtain ⟨T, z, rfl, hT, rfl, hz⟩ := y
    rw [enum_get] at e
    cases e1 : ds[i]? with
    | none => rw [e1] at e; cases e
    | some d1 =>
      rw [e1] at e
      have e2 : PyData.tuple [.int ((0 + i : Nat) : Int), d1] = d := Option.some.inj e
      subst e2
      have hz' := seq_elem hd e1 (hz xs (SqL.of h))
      refine .inr ⟨T, _, hT, fun ps q => (by cases q), rfl, ?_⟩
      rw [Nat.zero_add]
      exact pair_dr (s2.free hT) (hz'.same s1)
theorem wk_enumL0 {S : Sig} {a : Addr} {xs : List V} {H0 : Hp} {ds : List D} (h : H0 a = some (.lst xs)) (hd : DrAll S.K H0 xs ds) : WkD S (Ite S.K a) none H0 (enumD 0 ds) := by
  have w := wk_enumL (S := S) (a := a) hd
  exact ⟨fun i c H s1 s2 _ => w.goes i c H s1 s2 (s2 _ _ (s1 _ _ h)), fun c H s1 s2 _ => w.stops c H s1 s2 (s2 _ _ (s1 _ _ h)), fun i d c H x H' s1 s2 _ => w.yields i d c H x H' s1 s2 (s2 _ _ (s1 _ _ h))⟩
theorem wk_rng {S : Sig} {lo : Int} {n : Nat} {H0 : Hp} : WkD S (Itr lo n) none H0 ((List.range n).map fun (i : Nat) => .int (lo + i)) := by
  refine ⟨fun i c H s1 s2 _ hi => (by show i < n; simpa using hi), fun c H s1 s2 _ => (by show n ≤ _; simp), fun i d c H x H' s1 s2 _ e y => ?_⟩
  obtain ⟨rfl, rfl⟩ := y
  rw [List.getElem?_map] at e
  by_cases hi : i < n
  · rw [List.getElem?_range hi] at e
    cases e
    exact .inl ⟨rfl, .int _⟩
  · rw [List.getElem?_eq_none (by simpa using hi)] at e; cases e
theorem dr_kV {K : KW} {H : Hp} : ∀ k : Key, Dr K H (kV k) (keyD k)
  | .inl i => .int i
  | .inr x => .str x
theorem wk_keys {S : Sig} {a : Addr} {o : Obj} {kvs : List (Key × V)} {H0 : Hp} (h : H0 a = some (.frz o (.dK kvs))) : WkD S (Itk a o kvs) none H0 (kvs.map fun q => keyD q.1) := by
  refine ⟨fun i c H s1 s2 _ hi => ⟨s2 _ _ (s1 _ _ h), by simpa using hi⟩, fun c H s1 s2 _ => ⟨s2 _ _ (s1 _ _ h), by simp⟩, fun i d c H x H' s1 s2 _ e y => ?_⟩
  obtain ⟨rfl, k, v, e1, rfl⟩ := y
  rw [List.getElem?_map, e1] at e
  cases e
  exact .inl ⟨rfl, dr_kV k⟩
theorem dct_keys {kvs : List (Key × V)} {ds : List D} (h : kvs.length = ds.length) : ((kvs.map fun q => keyD q.1).zip ds).map (·.1) = kvs.map fun q => keyD q.1 := by
  rw [List.map_fst_zip]
  simp [h]
section
variable {X : Cx} {S : Sig} {W : WX} {C : Cfg} {F : Fns}
theorem PI.weak {tg it : Expr} {t t' : TI} (h : PI X tg it t) (w : ∀ σ H R, t' σ H R → t σ H R) : PI X tg it t' := ⟨fun pins s σ H R I q => h.run pins s σ H R I (w σ H R q)⟩
abbrev RI (S : Sig) (W : WX) (f : Env → M (List D)) : TI := RX S W (relI S) f
theorem i_e {tg l : Expr} {c : E} (G : Gd X S W C F) (h : SE X S W F l c) : PI X tg l (RI S W (evI F (.e c))) := by
  refine PI.weak (pi_seq h.pe) fun σ H R q => ?_
  simp only [evI] at q
  obtain ⟨env, g, He, H0e, H0, R0, q⟩ := q
  refine ⟨env, g, He, H0e, H0, R0, Pst.bd q fun x g1 v H1 H1' a1 r1 h1 => ?_⟩
  rw [G.hK]
  have R1 := R0.step a1
  cases x with
  | gn => exact h1.elim
  | sc ns =>
    obtain ⟨a, rfl, e1⟩ := r1
    exact ⟨a, rfl, .inl ⟨_, sqL_same a1.sub e1, h1 _ H1 H1' (Aft.refl R1) ⟨none, wk_sq e1 (int_all ns), trivial⟩⟩⟩
  | co _ => exact h1.elim
  | bo ds =>
    obtain ⟨a, xs, rfl, e1, e2⟩ := r1
    exact ⟨a, rfl, .inl ⟨xs, SqL.of e1, h1 _ H1 H1' (Aft.refl R1) ⟨some (a, xs), wk_lst e2, e1⟩⟩⟩
  | d d =>
    cases d with
    | list ds =>
      obtain ⟨a, xs, rfl, e1, e2⟩ := Dr.lst_inv r1
      exact ⟨a, rfl, .inl ⟨xs, SqL.of (a1.sub _ _ e1), h1 _ H1 H1' (Aft.refl R1) ⟨none, wk_lst0 e1 e2, trivial⟩⟩⟩
    | tuple ds =>
      obtain ⟨a, xs, rfl, e1, e2⟩ := Dr.tup_inv r1
      exact ⟨a, rfl, .inr (.inl ⟨xs, sqT_same a1.sub e1, h1 _ H1 H1' (Aft.refl R1) ⟨none, wk_tup e1 e2, trivial⟩⟩)⟩
    | dict kds =>
      cases r1 with
      | dct e1 e2 =>
        have hl := e2.length
        rw [List.length_map] at hl
        refine ⟨_, rfl, .inr (.inr ⟨_, _, a1.sub _ _ e1, h1 _ H1 H1' (Aft.refl R1) ⟨none, ?_, trivial⟩⟩)⟩
        rw [dct_keys hl]
        exact wk_keys e1
    | _ => exact h1.elim
theorem i_enum {a : Expr} {elts : List Expr} {kk : Nat} {tpos p pos : Pos} {c : E} (G : Gd X S W C F) (hg : glB C.sc "enumerate" = true) (h : SE X S W F a c) : PI X (.Tuple elts kk tpos) (.Call (.Name "enumerate" p) [a] [] pos) (RI S W (evI F (.enum c))) := by
  have hst : starEach [a] X.env = [(false, eval a X.env)] := h.ns _ _
  refine PI.weak (pi_enumA (gl_of G.hsc hg) (G.blt _ (by simp [bltNames])) (pa_cons h.pe pa_nil (h.ns _ _)) hst) fun σ H R q => ?_
  simp only [evI] at q
  obtain ⟨env, g, He, H0e, H0, R0, q⟩ := q
  refine ⟨env, g, He, H0e, H0, R0, Pst.bd q fun x g1 v H1 H1' a1 r1 h1 => ?_⟩
  rw [G.hK]
  have R1 := R0.step a1
  cases x with
  | gn => exact h1.elim
  | sc _ => exact h1.elim
  | co _ => exact h1.elim
  | bo ds =>
    obtain ⟨b, xs, rfl, e1, e2⟩ := r1
    exact ⟨b, rfl, .inl ⟨xs, SqL.of e1, h1 _ H1 H1' (Aft.refl R1) ⟨some (b, xs), wk_enumL e2, e1⟩⟩⟩
  | d d =>
    cases d with
    | list ds =>
      obtain ⟨b, xs, rfl, e1, e2⟩ := Dr.lst_inv r1
      exact ⟨b, rfl, .inl ⟨xs, SqL.of (a1.sub _ _ e1), h1 _ H1 H1' (Aft.refl R1) ⟨none, wk_enumL0 e1 e2, trivial⟩⟩⟩
    | tuple ds =>
      obtain ⟨b, xs, rfl, e1, e2⟩ := Dr.tup_inv r1
      exact ⟨b, rfl, .inr ⟨xs, sqT_same a1.sub e1, h1 _ H1 H1' (Aft.refl R1) ⟨none, wk_enumT e1 e2, trivial⟩⟩⟩
    | _ => exact h1.elim
theorem i_rng1 {tg a : Expr} {p pos : Pos} {c : E} (G : Gd X S W C F) (hg : glB C.sc "range" = true) (h : SE X S W F a c) : PI X tg (.Call (.Name "range" p) [a] [] pos) (RI S W (evI F (.rng1 c))) := by
  have hst : starEach [a] X.env = [(false, eval a X.env)] := h.ns _ _
  refine PI.weak (pi_range1 (gl_of G.hsc hg) (G.blt _ (by simp [bltNames])) (pa_cons h.pe pa_nil (h.ns _ _)) hst) fun σ H R q => ?_
  simp only [evI] at q
  obtain ⟨env, g, He, H0e, H0, R0, q⟩ := q
  refine ⟨env, g, He, H0e, H0, R0, Pst.bd q fun x g1 v H1 H1' a1 r1 h1 => ?_⟩
  have R1 := R0.step a1
  obtain ⟨j, rfl, rfl, h3⟩ := toInt_bd r1 h1
  clear h1
  unfold rngD at h3
  split at h3
  · rename_i hb
    refine ⟨j, rfl, hb.2.2.1, hb.2.2.2, ?_⟩
    have e : (j - 0).toNat = j.toNat := by omega
    rw [e] at h3
    exact h3 _ H1 H1' (Aft.refl R1) ⟨none, wk_rng, trivial⟩
  · exact h3.elim
theorem i_rng2 {tg a b : Expr} {p pos : Pos} {c d : E} (G : Gd X S W C F) (hg : glB C.sc "range" = true) (h : SE X S W F a c) (h' : SE X S W F b d) : PI X tg (.Call (.Name "range" p) [a, b] [] pos) (RI S W (evI F (.rng2 c d))) := by
  have hst2 : starEach [b] X.env = [(false, eval b X.env)] := h'.ns _ _
  have hst : starEach [a, b] X.env = [(false, eval a X.env), (false, eval b X.env)] := by rw [h.ns, hst2]
  refine PI.weak (pi_range2 (gl_of G.hsc hg) (G.blt _ (by simp [bltNames])) (pa_cons h.pe (pa_cons h'.pe pa_nil (h'.ns _ _)) (h.ns _ _)) hst hst2) fun σ H R q => ?_
  simp only [evI] at q
  obtain ⟨env, g, He, H0e, H0, R0, q⟩ := q
  refine ⟨env, g, He, H0e, H0, R0, Pst.bd q fun x g1 v H1 H1' a1 r1 h1 => ?_⟩
  have R1 := R0.step a1
  refine ⟨env, g1, He, H0e, H1, R1, Pst.bd h1 fun y g2 w H2 H2' a2 r2 h2 => ?_⟩
  have R2 := R1.step a2
  obtain ⟨i, rfl, rfl, h3⟩ := toInt_bd (r1.step R1.gen a2) h2
  clear h2
  obtain ⟨j, rfl, rfl, h4⟩ := toInt_bd r2 h3
  clear h3
  unfold rngD at h4
  split at h4
  · rename_i hb
    exact ⟨i, j, rfl, hb, h4 _ H2 H2' (Aft.refl R2) ⟨none, wk_rng, trivial⟩⟩
  · exact h4.elim
end
end PD
set_option Elab.async false
set_option linter.all false
set_option maxRecDepth 100000
set_option autoImplicit false
namespace PD
open PySem PySem.Spec L2

/-! ### comprehensions -/
abbrev W0 : WX := fun _ _ _ _ => False
theorem calm_bd {α β : Type} (m : M α) (k : α → M β) : M.calm (m.bd k) = (M.calm m).bd fun a => M.calm (k a) := by
  funext g
  show (match (match m g with | .ok a g' => k a g' | .er c d g' => .er c d g' | .st => .st : Rs β) with | .ok a g' => .ok a g' | _ => .st : Rs β) = (match (match m g with | .ok a g' => .ok a g' | _ => .st : Rs α) with | .ok a g' => M.calm (k a) g' | .er c d g' => .er c d g' | .st => .st : Rs β)
  cases m g <;> rfl
theorem calm_pu {α : Type} (a : α) : M.calm (M.pu a) = M.pu a := rfl
theorem calm_ofO {α : Type} (o : Option α) : M.calm (M.ofO o) = M.ofO o := by cases o <;> rfl
theorem Pst.mono {α β : Type} {S : Sig} {W : WX} {σ : L2.St} {H0 H H1 H1' : Hp} {rel : Hp → Hp → β → α → Prop} {Q : β → Hp → Prop} {r : Rs α} {g : Gen} (a : Aft S g H0 H H1 H1') (h : Pst S W σ H0 H rel Q r) : Pst S W σ H1 H1' rel Q r := by
  cases r with
  | ok x g' => exact fun v H2 H3 a2 q => h v H2 H3 (a.trans a2) q
  | er c d g' => exact fun dx v H2 H3 a2 q1 q2 => h dx v H2 H3 (a.trans a2) q1 q2
  | st => exact h
/-- like Pst.bd, of a step that no refusal leaves: any wish about refusals, any slots; what is wanted is told from a base on -/
theorem Pst.bdC {α β γ δ : Type} {S : Sig} {W W' : WX} {σ σ' : L2.St} {B B' H0 H : Hp} {rel : Hp → Hp → β → α → Prop} {rel' : Hp → Hp → δ → γ → Prop} {Q : δ → Hp → Prop} {Kt : β → Hp → Prop} {m : M α} {k : α → M γ} {g : Gen}
    (h : Pst S W σ B B' rel' Q (((M.calm m).bd k) g))
    (hk : ∀ x g' v H0' H', Aft S g' H0 H H0' H' → rel H0' H' v x → Pst S W σ B B' rel' Q (k x g') → Kt v H') : Pst S W' σ' H0 H rel Kt (m g) := by
  unfold M.calm M.bd at h
  dsimp only at h
  cases e : m g with
  | st => rw [e] at h; exact h.elim
  | er c d g' => rw [e] at h; exact h.elim
  | ok x g' =>
    rw [e] at h
    exact fun v H0' H' a r => hk x g' v H0' H' a r h
theorem mapB_calm (f : D → M (Option D)) : ∀ (ds : List D) (g : Gen), (∀ d g, (∃ x g', f d g = .ok x g') ∨ f d g = .st) → (∃ ys g', mapB f ds g = .ok ys g') ∨ mapB f ds g = .st
  | [], g, _ => .inl ⟨[], g, rfl⟩
  | d :: ds, g, h => by
    show (∃ ys g', ((f d).bd fun y => (mapB f ds).bd fun ys => M.pu _) g = .ok ys g') ∨ ((f d).bd fun y => (mapB f ds).bd fun ys => M.pu _) g = .st
    unfold M.bd
    rcases h d g with ⟨x, g', e⟩ | e
    · rw [e]
      dsimp only
      rcases mapB_calm f ds g' h with ⟨ys, g2, e2⟩ | e2
      · rw [e2]; exact .inl ⟨_, _, rfl⟩
      · rw [e2]; exact .inr rfl
    · rw [e]; exact .inr rfl
theorem calm_cases {α : Type} (m : M α) (g : Gen) : (∃ x g', M.calm m g = .ok x g') ∨ M.calm m g = .st := by
  unfold M.calm
  cases m g with
  | ok x g' => exact .inl ⟨x, g', rfl⟩
  | er _ _ _ => exact .inr rfl
  | st => exact .inr rfl
/-- the heap grows by what is not yet known -/
theorem Aft.grow {S : Sig} {g : Gen} {H0 H : Hp} {p : Addr} {o : HO} (sub : Same H0 H) (gen : GenAt S.gm g H0 H) (tabs : LamX.Tabs S.T H) (hp : H p = none) : Aft S g H0 H H0 (upd H p o) := by
  have sm : Same H (upd H p o) := same_new hp
  refine ⟨⟨Same.refl _, fun a u e _ _ => sm _ _ e, fun a e => ?_, fun a e => .inl e, fun _ _ e => e⟩, sub.trans sm, fun q hq => let ⟨gl, e1, e2⟩ := gen q hq; ⟨gl, sm _ _ e1, e2⟩, tabs.ext sm⟩
  by_cases z : a = p
  · subst z; exact .inl hp
  · unfold Fre at e ⊢
    rw [upd_ne z] at e; exact e
/-- a list of ours that is not yet known is written -/
theorem Aft.wrt {S : Sig} {g : Gen} {H0 H H1 H1' : Hp} {p : Addr} {xs ys : List V} (a : Aft S g H0 H H1 H1') (hp : Fre H p) (h1 : H1 p = none) (he : H1' p = some (.lst xs)) : Aft S g H0 H H1 (upd H1' p (.lst ys)) := by
  have ne1 : ∀ {b u}, H1 b = some u → b ≠ p := fun {b u} e => ne_of_none e h1
  refine ⟨⟨a.stp.s0, fun b u e n t => ?_, fun b e => ?_, a.stp.fresh, a.stp.nt⟩, fun b u e => ?_, fun r hr => ?_, fun q hq => ?_⟩
  · rw [upd_ne (hp.ne e t)]; exact a.stp.fr b u e n t
  · by_cases z : b = p
    · rw [z]; exact hp
    · refine a.stp.th b ?_
      unfold Fre at e ⊢
      rw [upd_ne z] at e; exact e
  · rw [upd_ne (ne1 e)]; exact a.sub b u e
  · obtain ⟨gl, e1, e2⟩ := a.gen r hr
    refine ⟨gl, ?_, e2⟩
    rw [upd_ne (ne_of e1 he (by intro z; cases z))]; exact e1
  · obtain ⟨ps, k1, k2, k3⟩ := a.tabs q hq
    have n1 : q.1 ≠ p := ne_of k1 he (by intro z; cases z)
    refine ⟨ps, by rw [upd_ne n1]; exact k1, k2, fun pos cv hc => ?_⟩
    obtain ⟨c, e3, e4⟩ := k3 pos cv hc
    refine ⟨c, e3, ?_⟩
    rw [upd_ne (ne_of e4 he (by intro z; unfold LamX.CodeO at z; cases z))]
    exact e4
/-- a list of ours is known from now on -/
theorem Aft.know {S : Sig} {g : Gen} {H0 H H1 H1' : Hp} {p : Addr} {xs : List V} (a : Aft S g H0 H H1 H1') (hp : Fre H p) (h1 : H1 p = none) (he : H1' p = some (.lst xs)) : Aft S g H0 H (upd H1 p (.lst xs)) H1' := by
  refine ⟨⟨a.stp.s0.trans (same_new h1), a.stp.fr, a.stp.th, fun b e => ?_, fun b ps e => ?_⟩, fun b u e => ?_, fun q hq => let ⟨gl, e1, e2⟩ := a.gen q hq; ⟨gl, e1, same_new h1 _ _ e2⟩, a.tabs⟩
  · by_cases z : b = p
    · subst z; exact .inr hp
    · rw [upd_ne z] at e; exact a.stp.fresh b e
  · by_cases z : b = p
    · subst z; rw [upd_same] at e; cases e
    · rw [upd_ne z] at e; exact a.stp.nt b ps e
  · by_cases z : b = p
    · subst z; rw [upd_same] at e; rw [he]; exact e
    · rw [upd_ne z] at e; exact a.sub b u e
section
variable {X : Cx} {S : Sig} {W : WX} {C : Cfg} {F : Fns}
theorem lc_readG {α : Type} {rel : Hp → Hp → V → α → Prop} (kf : List PD.D → α) {J : It} {o : Option (Addr × List V)} {env : Env} {g1 : Gen} {σ : L2.St} {He H0e H1 H1' : Hp} {Q : VK} {ds : List D} {w : List Nat} {tg : Tg} {t : Option E} {e : E}
    (hkf : ∀ (D : Addr) (gi : Gen) (H0i H : Hp) (acc : List V) (ys : List PD.D), H1' D = none → Aft S gi H1 H1' H0i H → H D = some (.lst acc) → H0i D = none → DrAll S.K H0i acc ys → ∃ H0', Aft S gi H1 H1' H0' H ∧ rel H0' H (.ref D) (kf ys))
    (R1 : Rl S env g1 σ He H0e H1 H1') (wk : WkD S J o H1 ds) (hold : Hold o H1') (hw : ∀ i ∈ tgIx tg, i ∈ w)
    (h : Pst S W σ H1 H1' rel Q (((mapB (fun d => M.calm ((M.ofO (setTg (wipeE env w) tg d)).bd fun env' => (evOT F t env').bd fun k =>
      if k then (ev F e env').bd fun y => (solid y).bd fun y => .pu (some y) else .pu none)) ds).bd fun ys => if ys.length ≤ sizeLine then .pu (kf ys) else .stuck) g1)) :
    ∀ D, H1' D = none → ∃ Wv : Nat → Nat → Hp → Prop, (∃ m, Wv 0 m (upd H1' D (.lst []))) ∧ ∀ i m H, Wv i m H → (J.stop i H ∧ Q (.ref D) H) ∨ (J.go i H ∧ ∃ Nx : Hp → Prop, (∀ H', Nx H' → ∃ m', m' < m ∧ Wv (i + 1) m' H') ∧
      ∀ x H', J.yld i H x H' → gD S tg x (L2.wipe σ w) H' fun σ2 H2 => L2.wipe σ2 w = L2.wipe σ w ∧ RX S W0 relB (evOT F t) σ2 H2 fun b H3 =>
        if b = true then RE S W0 (ev F e) σ2 H3 fun y H4 => ∃ acc, H4 D = some (.lst acc) ∧ acc.length < sizeLine ∧ Nx (upd H4 D (.lst (acc ++ [y]))) else Nx H3) := by
  intro D hD
  let f : PD.D → M (Option PD.D) := fun d => M.calm ((M.ofO (setTg (wipeE env w) tg d)).bd fun env' => (evOT F t env').bd fun k =>
      if k then (ev F e env').bd fun y => (solid y).bd fun y => .pu (some y) else .pu none)
  let fin : List PD.D → M α := fun ys => if ys.length ≤ sizeLine then .pu (kf ys) else .stuck
  let P : Nat → Hp → Prop := fun i H => ∃ gi H0i acc accD, Aft S gi H1 H1' H0i H ∧ H D = some (.lst acc) ∧ H0i D = none ∧ DrAll S.K H0i acc accD ∧ Hold o H ∧
    Pst S W σ H1 H1' rel Q (((mapB f (ds.drop i)).bd fun ys => fin (accD ++ ys)) gi)
  refine ⟨fun i m H => m = ds.length - i ∧ i ≤ ds.length ∧ P i H, ⟨ds.length, by simp, Nat.zero_le _, g1, H1, [], [], ?_⟩, ?_⟩
  · have a0 : Aft S g1 H1 H1' H1 (upd H1' D (.lst [])) := Aft.grow R1.sub R1.gen R1.tabs hD
    refine ⟨a0, upd_same, R1.sub.free hD, .nil, ?_, ?_⟩
    · cases o with
      | none => trivial
      | some p =>
        show upd H1' D (.lst []) p.1 = _
        rw [upd_ne (ne_of_none hold hD)]; exact hold
    · rw [List.drop_zero]
      exact h
  · rintro i m H ⟨rfl, hi, gi, H0i, acc, accD, a, hDi, h0D, hacc, ho, hp⟩
    by_cases hlt : i < ds.length
    · refine .inr ⟨wk.goes i H0i H a.stp.s0 a.sub ho hlt, P (i + 1), fun H' p' => ⟨ds.length - (i + 1), by omega, rfl, hlt, p'⟩, fun x H' y => ?_⟩
      -- the item
      have eds : ds.drop i = ds[i] :: ds.drop (i + 1) := List.drop_eq_getElem_cons hlt
      have hget : ds[i]? = some ds[i] := by simp [hlt]
      have Ri : Rl S (wipeE env w) gi (L2.wipe σ w) He H0e H0i H := (R1.step a).wipe w
      obtain ⟨H0j, aj, hxd⟩ : ∃ H0j, Aft S gi H0i H H0j H' ∧ Dr S.K H0j x ds[i] := by
        rcases wk.yields i ds[i] H0i H x H' a.stp.s0 a.sub ho hget y with ⟨rfl, hd⟩ | ⟨p, u, hpn, hut, rfl, hd⟩
        · exact ⟨H0i, Aft.same a.sub a.gen a.tabs, hd⟩
        · exact ⟨_, Aft.new a.sub a.gen a.tabs hpn hut, hd⟩
      have a2 := a.trans aj
      have Rj : Rl S (wipeE env w) gi (L2.wipe σ w) He H0e H0j H' := Ri.step aj
      -- D and the hold stay
      have stay : ∀ {g' : Gen} {H0k Hk : Hp}, Aft S g' H0i H H0k Hk → Hk D = some (.lst acc) ∧ H0k D = none ∧ DrAll S.K H0k acc accD ∧ Hold o Hk := by
        intro g' H0k Hk ak
        have e1 : Hk D = some (.lst acc) := ak.stp.fr _ _ hDi (a.gen.nlst hDi) (fun ps z => by cases z)
        refine ⟨e1, ?_, hacc.same ak.stp.s0, ?_⟩
        · cases q : H0k D with
          | none => rfl
          | some u =>
            rcases ak.stp.fresh D (by rw [q]; simp) with z | z
            · exact absurd h0D z
            · exact absurd rfl (z.ne hDi (fun ps q => by cases q))
        · cases o with
          | none => trivial
          | some p => exact ak.stp.fr _ _ ho (a.gen.nlst ho) (fun ps z => by cases z)
      have hp2 : Pst S W σ H1 H1' rel Q (((f ds[i]).bd fun y => (mapB f (ds.drop (i + 1))).bd fun ys => fin (accD ++ (match y with | some y => y :: ys | none => ys))) gi) := by
        have q := hp
        rw [eds] at q
        have e3 : ((mapB f (ds[i] :: ds.drop (i + 1))).bd fun ys => fin (accD ++ ys)) = (f ds[i]).bd fun y => (mapB f (ds.drop (i + 1))).bd fun ys => fin (accD ++ (match y with | some y => y :: ys | none => ys)) := by
          show (((f ds[i]).bd fun y => (mapB f (ds.drop (i + 1))).bd fun ys => .pu (match y with | some y => y :: ys | none => ys)).bd fun ys => fin (accD ++ ys)) = _
          rw [M.bd_assoc]
          congr 1; funext y
          rw [M.bd_assoc]
          rfl
        rw [e3] at q
        exact q
      cases es : setTg (wipeE env w) tg ds[i] with
      | none =>
        have e4 : f ds[i] = M.stuck := by
          show M.calm ((M.ofO (setTg (wipeE env w) tg ds[i])).bd _) = _
          rw [es]; rfl
        rw [e4] at hp2
        exact hp2.elim
      | some env' =>
        have e4 : f ds[i] = (M.calm (evOT F t env')).bd fun k => M.calm (if k then (ev F e env').bd fun y => (solid y).bd fun y => .pu (some y) else .pu none) := by
          show M.calm ((M.ofO (setTg (wipeE env w) tg ds[i])).bd _) = _
          rw [es, show M.ofO (some env') = M.pu env' from rfl, M.pu_bd, calm_bd]
        rw [e4, M.bd_assoc] at hp2
        refine ⟨wipeE env w, gi, He, H0e, H0j, ds[i], env', Rj, hxd, es, fun σ2 hl2 hs2 R2 => ⟨?_, ?_⟩⟩
        · rw [wipe_eq hl2 hs2 hw, wipe_wipe]
        refine ⟨env', gi, He, H0e, H0j, R2, Pst.bdC hp2 fun b g2 b' H3 H3' a3 r3 h3 => ?_⟩
        have r3 : b' = b := r3
        subst r3
        have R3 := R2.step a3
        cases b' with
        | false =>
          refine iteF ?_
          rw [show M.calm (if false = true then (ev F e env').bd fun y => (solid y).bd fun y => M.pu (some y) else M.pu none) = M.pu none from rfl, M.pu_bd] at h3
          obtain ⟨k1, k2, k3, k4⟩ := stay (aj.trans a3)
          exact ⟨g2, H3, acc, accD, a2.trans a3, k1, k2, k3, k4, h3⟩
        | true =>
          refine iteT ⟨env', g2, He, H0e, H3, R3, ?_⟩
          rw [show (if true = true then (ev F e env').bd fun y => (solid y).bd fun y => M.pu (some y) else M.pu none) = (ev F e env').bd fun y => (solid y).bd fun y => M.pu (some y) from rfl, calm_bd, M.bd_assoc] at h3
          refine Pst.bdC h3 fun y g4 v H4 H4' a4 r4 h4 => ?_
          cases y with
          | gn => exact h4.elim
          | sc _ => exact h4.elim
          | co _ => exact h4.elim
          | bo zs => exact h4.elim
          | d z =>
            have h4 : Pst S W σ H1 H1' rel Q (((mapB f (ds.drop (i + 1))).bd fun ys => fin (accD ++ (z :: ys))) g4) := h4
            obtain ⟨k1, k2, k3, k4⟩ := stay ((aj.trans a3).trans a4)
            -- the length
            have hl : acc.length < sizeLine := by
              rcases mapB_calm f (ds.drop (i + 1)) g4 (fun d g => calm_cases _ g) with ⟨ys, g5, e5⟩ | e5
              · have q : Pst S W σ H1 H1' rel Q (fin (accD ++ z :: ys) g5) := by
                  unfold M.bd at h4
                  dsimp only at h4
                  rw [e5] at h4
                  exact h4
                have ql : (accD ++ z :: ys).length ≤ sizeLine := by
                  by_cases hc : (accD ++ z :: ys).length ≤ sizeLine
                  · exact hc
                  · have : fin (accD ++ z :: ys) = M.stuck := if_neg hc
                    rw [this] at q; exact q.elim
                rw [List.length_append, List.length_cons, ← hacc.length] at ql
                omega
              · unfold M.bd at h4
                dsimp only at h4
                rw [e5] at h4
                exact h4.elim
            have a5 := ((a2.trans a3).trans a4)
            have aw := a5.wrt (ys := acc ++ [v]) (.inl hD) k2 k1
            refine ⟨acc, k1, hl, g4, H4, acc ++ [v], accD ++ [z], aw, upd_same, k2, k3.append (.cons r4 .nil), ?_, ?_⟩
            · cases o with
              | none => trivial
              | some p =>
                show upd H4' D _ p.1 = _
                have n1 : p.1 ≠ D := ne_of_none hold hD
                rw [upd_ne n1]; exact k4
            · have e6 : (fun ys => fin (accD ++ [z] ++ ys)) = fun ys => fin (accD ++ (z :: ys)) := by
                funext ys; rw [List.append_assoc]; rfl
              rw [e6]
              exact h4
    · have e7 : i = ds.length := by omega
      subst e7
      refine .inl ⟨wk.stops H0i H a.stp.s0 a.sub ho, ?_⟩
      rw [List.drop_length] at hp
      have hp : Pst S W σ H1 H1' rel Q (fin (accD ++ []) gi) := hp
      rw [List.append_nil] at hp
      by_cases hc : accD.length ≤ sizeLine
      · have e8 : fin accD = M.pu (kf accD) := if_pos hc
        rw [e8] at hp
        obtain ⟨H0', a', r'⟩ := hkf D gi H0i H acc accD hD a hDi h0D hacc
        exact hp (.ref D) H0' H a' r'
      · have e8 : fin accD = M.stuck := if_neg hc
        rw [e8] at hp; exact hp.elim
/-- as data -/
theorem lc_read {J : It} {o : Option (Addr × List V)} {env : Env} {g1 : Gen} {σ : L2.St} {He H0e H1 H1' : Hp} {Q : VK} {ds : List D} {w : List Nat} {tg : Tg} {t : Option E} {e : E}
    (R1 : Rl S env g1 σ He H0e H1 H1') (wk : WkD S J o H1 ds) (hold : Hold o H1') (hw : ∀ i ∈ tgIx tg, i ∈ w)
    (h : Pst S W σ H1 H1' (VR S) Q (((mapB (fun d => M.calm ((M.ofO (setTg (wipeE env w) tg d)).bd fun env' => (evOT F t env').bd fun k =>
      if k then (ev F e env').bd fun y => (solid y).bd fun y => .pu (some y) else .pu none)) ds).bd fun ys => if ys.length ≤ sizeLine then .pu (.d (.list ys)) else .stuck) g1)) :
    ∀ D, H1' D = none → ∃ Wv : Nat → Nat → Hp → Prop, (∃ m, Wv 0 m (upd H1' D (.lst []))) ∧ ∀ i m H, Wv i m H → (J.stop i H ∧ Q (.ref D) H) ∨ (J.go i H ∧ ∃ Nx : Hp → Prop, (∀ H', Nx H' → ∃ m', m' < m ∧ Wv (i + 1) m' H') ∧
      ∀ x H', J.yld i H x H' → gD S tg x (L2.wipe σ w) H' fun σ2 H2 => L2.wipe σ2 w = L2.wipe σ w ∧ RX S W0 relB (evOT F t) σ2 H2 fun b H3 =>
        if b = true then RE S W0 (ev F e) σ2 H3 fun y H4 => ∃ acc, H4 D = some (.lst acc) ∧ acc.length < sizeLine ∧ Nx (upd H4 D (.lst (acc ++ [y]))) else Nx H3) :=
  lc_readG (fun ys => Vl.d (.list ys)) (fun D gi H0i H acc ys hD a hDi h0D hacc => ⟨_, Aft.know a (.inl hD) h0D hDi, Dr.lst upd_same (hacc.same (same_new h0D))⟩) R1 wk hold hw h
end
end PD
set_option Elab.async false
set_option linter.all false
set_option maxRecDepth 100000
set_option autoImplicit false
namespace PD
open PySem PySem.Spec L2

theorem lookup_relabel {env : PySem.Env} {y : NameKind} (hy : (y == NameKind.free) = false) : ∀ {names : List (Str × NameKind)} {x : Str}, names.lookup x = some y →
    (names.map fun (n, k) => if (k == NameKind.free && env.scope.kind == .function && env.kindOf n == some .cell) then (n, NameKind.cell) else (n, k)).lookup x = some y
  | [], _, h => by simp at h
  | (n, k) :: r, x, h => by
    have ih := @lookup_relabel env y hy r x
    show List.lookup x ((if (k == NameKind.free && env.scope.kind == .function && env.kindOf n == some .cell) = true then (n, NameKind.cell) else (n, k)) :: _) = _
    cases hx : x == n with
    | true =>
      simp only [List.lookup_cons, hx] at h
      cases h
      simp [List.lookup_cons, hx, hy]
    | false =>
      simp only [List.lookup_cons, hx] at h
      by_cases hc : (k == NameKind.free && env.scope.kind == .function && env.kindOf n == some .cell) = true
      · rw [if_pos hc]; simp only [List.lookup_cons, hx]; exact ih h
      · rw [if_neg hc]; simp only [List.lookup_cons, hx]; exact ih h
section
variable {X : Cx} {S : Sig} {W : WX} {C : Cfg} {F : Fns}
theorem relS_eq {env : PySem.Env} {scope : Scope} : relabel scope env = relS env.scope scope := rfl
theorem Gd.blk (G : Gd X S W C F) {scope : Scope} (s : Shared) (H : Hp) (Ca : Addr) (cl : List (Str × Addr)) (fp : List Addr) : Gd (X.blk s H scope (compEnvC scope cl Ca X.env) fp) S W0 (C.inn scope) F where
  hN := G.hN
  hsc := by
    show relabel scope X.env = relS C.sc scope
    rw [relS_eq, G.hsc]
  hK := G.hK
  hw := G.hw
  nd := G.nd
  calm := G.calm
  room := G.room
  guards := G.guards
  own := PassesOwn.never
  tk := takes0
  blt := G.blt
  sys := G.sys
  cst := G.cst
  fns := G.fns
  said := fun z => by cases z
theorem StOk.blk (G : Gd X S W C F) {scope : Scope} {own : List (Str × Nat)} (hb : blkC C.N C.sc scope own = true) (s : Shared) (H : Hp) (Ca : Addr) (cl : List (Str × Addr)) (fp : List Addr) : StOk (X.blk s H scope (compEnvC scope cl Ca X.env) fp) (C.tgt scope) := by
  intro x i h
  unfold Cfg.slot at h
  split at h
  · rename_i hc
    rw [Bool.and_eq_true] at hc
    refine ⟨by show X.N[i]? = _; rw [G.hN]; exact ixOf_get h, ?_, ?_⟩
    · show Loc (relabel scope X.env) x
      rcases loc_of hc.1 with e | e
      · exact .inl (lookup_relabel rfl e)
      · exact .inr (lookup_relabel rfl e)
    · rcases loc_of hc.1 with e | e
      · exact .inr (lookup_relabel rfl e)
      · refine .inl ?_
        show (scope.names.lookup x == some .cell) = true
        have e : scope.names.lookup x = some .cell := e
        rw [e]; rfl
  · cases h
theorem pt_stuck {e : Expr} {f : Env → M Bool} (h : ∀ env g, f env g = .st) : PT X e (RT S W f) := ⟨fun pins s σ H Q I q => by
  obtain ⟨env, g, He, H0e, H0, R, q⟩ := q
  rw [h env g] at q
  exact q.elim⟩
/-- a comprehension, by its parts -/
theorem s_lc {elt tg iter : Expr} {ifs : List Expr} {scope : Scope} {pos : Pos} {t : Tg} {it : I} {k : Option E} {e : E} (G : Gd X S W C F)
    (hb : blkC C.N C.sc scope (ownOf C.N scope) = true) (hw : (tgIx t).all (fun i => decide (i ∈ (ownOf C.N scope).map Prod.snd)) = true)
    (hs : ∀ x, foldedSetIterable iter X.env x = pure x)
    (hi : PI X tg iter (RI S W (evI F it))) (ht : cTg (C.tgt scope) tg = some t)
    (hk : ∀ X', Gd X' S W0 (C.inn scope) F → PTs X' ifs (RT S W0 (evOT F k)))
    (he : ∀ X', Gd X' S W0 (C.inn scope) F → PE X' elt (RE S W0 (ev F e))) :
    SE X S W F (.ListComp elt [⟨tg, iter, ifs, 0⟩] scope pos) (.lc t it k e ((ownOf C.N scope).map Prod.snd)) := by
  have nd : X.N.Nodup := by rw [G.hN]; exact G.nd
  refine ⟨PE.weak (pe_lc G.calm nd hi (own := ownOf C.N scope) (by rw [G.hN, G.hsc]; exact blkOk_by hb)
    (fun s H Ca cl fp => g_tg (S := S) nd G.calm G.hK (StOk.blk G hb s H Ca cl fp) ht)
    (fun s H Ca cl fp => hk _ (G.blk s H Ca cl fp)) (fun s H Ca cl fp => he _ (G.blk s H Ca cl fp)) hs) fun σ H Q q => ?_, pt_stuck fun env g => by simp only [evT]; rfl, fun _ _ => rfl⟩
  obtain ⟨env, g, He, H0e, H0, R0, q⟩ := q
  simp only [ev] at q
  refine ⟨env, g, He, H0e, H0, R0, Pst.bd q fun ds g1 J H1 H1' a1 r1 h1 => ?_⟩
  obtain ⟨o, wk, hold⟩ := r1
  exact lc_read (R0.step a1) wk hold (fun i hi => by
    have := List.all_eq_true.mp hw i hi
    simpa using this) h1
end
end PD
set_option Elab.async false
set_option linter.all false
set_option maxRecDepth 100000
set_option autoImplicit false
namespace PD
open PySem PySem.Spec L2

section
variable {X : Cx} {S : Sig} {W : WX} {C : Cfg} {F : Fns}
theorem s_varP {x : Str} {i : Nat} {p : Pos} (G : Gd X S W C F) (hv : C.var x = some i) : PE X (.Name x p) (tVar i) := by
  unfold Cfg.var at hv
  split at hv
  · rename_i hc
    rw [Bool.and_eq_true] at hc
    obtain ⟨d1, d2⟩ := dbg_of hc.2
    exact pe_var (i := i) (by rw [G.hN]; exact ixOf_get hv) (by rw [G.hsc]; exact vis_of hc.1) d1 d2
  · cases hv
theorem great_dr {K : KW} {H : Hp} : ∀ (is : List Int), DrAll K H (is.map V.int) (is.map PyData.int)
  | [] => .nil
  | i :: is => .cons (.int i) (great_dr is)
/-- m['key'], m the drawing's dict -/
theorem s_gix {x k : Str} {i j : Nat} {p p2 pos : Pos} (G : Gd X S W C F) (hv : C.var x = some i) : SE X S W F (.Subscript (.Name x p) (.Constant (.str k) j p2) pos) (.gix i k) := by
  have hu : X.A.units + 1 < cLine := by have := G.room.un; omega
  refine ⟨PE.weak (pe_dget hu (s_varP G hv) pe_str (fun _ _ => rfl)) fun σ H Q h => ?_, pt_stuck fun env g => by simp only [evT]; rfl, fun _ _ => rfl⟩
  obtain ⟨env, g, He, H0e, H0, R, h⟩ := h
  simp only [ev] at h
  unfold gxD at h
  cases e1 : env[i]? with
  | none => rw [e1] at h; exact h.elim
  | some s =>
    rw [e1] at h
    obtain ⟨o, e2, e3⟩ := R.slots i _ e1
    cases s with
    | gn =>
      obtain ⟨q, e4, e5⟩ := e3
      subst e5
      dsimp only at h
      cases e6 : gGet k g with
      | none => rw [e6] at h; exact h.elim
      | some d =>
        rw [e6] at h
        obtain ⟨gl, g1, g2⟩ := R.gen q e4
        have fin : ∀ v, Dr S.K H0 v d → Q v H := fun v hv => h v H0 H (Aft.refl R) hv
        refine ⟨_, e2, q, ?_⟩
        unfold gGet at e6
        split at e6
        · cases e6
          rename_i hk
          subst hk
          exact ⟨_, rfl, DGet.k (k := .inr "great") g1, fin _ (Dr.lst g2 (great_dr _))⟩
        · split at e6
          · cases e6
            rename_i hk
            subst hk
            exact ⟨_, rfl, DGet.k (k := .inr "seed") g1, fin _ (.int _)⟩
          · split at e6
            · cases e6
              rename_i hk
              subst hk
              exact ⟨_, rfl, DGet.k (k := .inr "turns") g1, fin _ (.int _)⟩
            · cases e6
    | _ => exact h.elim
/-! ### {'k': e, ..} -/
theorem pairs_read : ∀ {cs : List E} {ks : List Str} {σ : L2.St} {H : Hp} {Q : List V → Hp → Prop} {Q' : List (V × V) → Hp → Prop}, ks.length = cs.length → RX S W (VRs S) (evs F cs) σ H Q →
    (∀ vs H', vs.length = ks.length → Q vs H' → Q' ((ks.zip vs).map fun q => (V.str q.1, q.2)) H') → tPairs ((ks.zip cs).map fun q => (tC (.str q.1), RE S W (ev F q.2))) σ H Q'
  | [], [], σ, H, Q, Q', _, h, hq => by
    obtain ⟨env, g, He, H0e, H0, R, h⟩ := h
    simp only [evs] at h
    exact hq [] H rfl (h [] H0 H (Aft.refl R) .nil)
  | [], k :: ks, _, _, _, _, hl, _, _ => by simp at hl
  | c :: cs, [], _, _, _, _, hl, _, _ => by simp at hl
  | c :: cs, k :: ks, σ, H, Q, Q', hl, h, hq => by
    obtain ⟨env, g, He, H0e, H0, R, h⟩ := h
    simp only [evs] at h
    refine ⟨env, g, He, H0e, H0, R, Pst.bd h fun x g1 v H1 H1' a1 r1 h1 => ?_⟩
    have R1 := R.step a1
    exact pairs_read (cs := cs) (ks := ks) (σ := σ) (H := H1') (Q := fun vs H' => Q (v :: vs) H') (Q' := fun ps H' => Q' ((.str k, v) :: ps) H') (by simpa using hl)
      ⟨env, g1, He, H0e, H1, R1, Pst.bd h1 fun xs g2 vs H2 H2' a2 r2 h2 => h2 (v :: vs) H2 H2' (Aft.refl (R1.step a2)) (.cons (r1.step R1.gen a2) r2)⟩
      fun vs H' e q => hq (v :: vs) H' (by simp [e]) q
/-- an object of ours, not yet known, gets its last form and is known from now on -/
theorem Aft.put {S : Sig} {g : Gen} {H0 H H1 H1' : Hp} {p : Addr} {u o : HO} (a : Aft S g H0 H H1 H1') (hp : Fre H p) (h1 : H1 p = none) (hg : S.gm ≠ some p) (he : H1' p = some u) (hu : ∀ ps, u ≠ .tbl ps) (hc : ∀ c q, u ≠ LamX.CodeO c q) (ho : ∀ ps, o ≠ .tbl ps) :
    Aft S g H0 H (upd H1 p o) (upd H1' p o) := by
  have ne1 : ∀ {b w}, H1 b = some w → b ≠ p := fun {b w} e => ne_of_none e h1
  refine ⟨⟨a.stp.s0.trans (same_new h1), fun b w e n t => ?_, fun b e => ?_, fun b e => ?_, fun b ps e => ?_⟩, fun b w e => ?_, fun r hr => ?_, fun q hq => ?_⟩
  · rw [upd_ne (hp.ne e t)]; exact a.stp.fr b w e n t
  · by_cases z : b = p
    · rw [z]; exact hp
    · refine a.stp.th b ?_
      unfold Fre at e ⊢
      rw [upd_ne z] at e; exact e
  · by_cases z : b = p
    · subst z; exact .inr hp
    · rw [upd_ne z] at e; exact a.stp.fresh b e
  · by_cases z : b = p
    · subst z; rw [upd_same] at e; exact absurd (Option.some.inj e) (ho ps)
    · rw [upd_ne z] at e; exact a.stp.nt b ps e
  · by_cases z : b = p
    · subst z; rw [upd_same] at e ⊢; exact e
    · rw [upd_ne z] at e ⊢; exact a.sub b w e
  · obtain ⟨gl, e1, e2⟩ := a.gen r hr
    refine ⟨gl, ?_, same_new h1 _ _ e2⟩
    rw [upd_ne (fun z => hg (by rw [hr, z]))]; exact e1
  · obtain ⟨ps, k1, k2, k3⟩ := a.tabs q hq
    refine ⟨ps, by rw [upd_ne (ne_of k1 he (fun z => hu ps z.symm))]; exact k1, k2, fun pos cv h => ?_⟩
    obtain ⟨c, e3, e4⟩ := k3 pos cv h
    refine ⟨c, e3, ?_⟩
    rw [upd_ne (ne_of e4 he (fun z => hc _ _ z.symm))]
    exact e4
theorem keys_pps {pos : Pos} : ∀ {keys : List (Option Expr)} {ks : List Str} {es : List Expr} {cs : List E}, keys.mapM keyE = some ks → SEs X S W F es cs → keys.length = es.length →
    PPs X pos keys es ((ks.zip cs).map fun q => (tC (.str q.1), RE S W (ev F q.2)))
  | [], ks, es, cs, e, h, hl => by
    have e : some [] = some ks := by simpa using e
    cases e
    cases h with
    | nil => exact pps_nil
    | cons _ _ => simp at hl
  | k0 :: keys, ks, es, cs, e, h, hl => by
    rw [List.mapM_cons] at e
    cases e1 : keyE k0 with
    | none => rw [e1] at e; cases e
    | some k =>
      cases e2 : keys.mapM keyE with
      | none => rw [e1, e2] at e; cases e
      | some ks' =>
        rw [e1, e2] at e
        have e3 : k :: ks' = ks := Option.some.inj e
        subst e3
        cases h with
        | nil => simp at hl
        | cons h1 h2 =>
          unfold keyE at e1
          split at e1
          · cases e1
            exact pps_cons pe_str h1.pe (keys_pps e2 h2 (by simpa using hl))
          · cases e1
theorem drop_nodup {k : Str} {v : V} {acc : List (Key × V)} (h : ∀ q ∈ acc, q.1 ≠ .inr k) : putK acc (.inr k) v = acc ++ [(.inr k, v)] := by
  refine putK_new v ?_
  unfold valV
  rw [List.find?_eq_none.mpr (fun q hq => by simpa using h q hq)]
  rfl
theorem merge_new : ∀ {ks : List Str} {vs : List V} {acc : List (Key × V)}, ks.Nodup → (∀ k ∈ ks, ∀ q ∈ acc, q.1 ≠ .inr k) →
    mergeK acc ((ks.zip vs).map fun q => ((.inr q.1 : Key), q.2)) = acc ++ (ks.zip vs).map fun q => ((.inr q.1 : Key), q.2)
  | [], _, acc, _, _ => by simp [mergeK]
  | k :: ks, [], acc, _, _ => by simp [mergeK]
  | k :: ks, v :: vs, acc, hn, h => by
    have e : mergeK acc (((k :: ks).zip (v :: vs)).map fun q => ((.inr q.1 : Key), q.2)) = mergeK (putK acc (.inr k) v) ((ks.zip vs).map fun q => ((.inr q.1 : Key), q.2)) := rfl
    rw [e, drop_nodup (h k (by simp))]
    rw [List.nodup_cons] at hn
    rw [merge_new hn.2 (fun k' hk q hq => ?_)]
    · simp
    · rcases List.mem_append.mp hq with z | z
      · exact h k' (by simp [hk]) q z
      · have z : q = (.inr k, v) := by simpa using z
        subst z
        intro z2
        have z3 : k = k' := by injection z2
        subst z3
        exact hn.1 hk
theorem zip_keys : ∀ {ks : List Str} {vs : List V}, vs.length = ks.length → ((ks.zip vs).map fun q => ((.inr q.1 : Key), q.2)).map (·.2) = vs ∧ (((ks.zip vs).map fun q => ((.inr q.1 : Key), q.2)).map fun q => keyD q.1) = ks.map PyData.str
  | [], [], _ => ⟨rfl, rfl⟩
  | [], v :: vs, h => by simp at h
  | k :: ks, [], h => by simp at h
  | k :: ks, v :: vs, h => by
    obtain ⟨h1, h2⟩ := zip_keys (ks := ks) (vs := vs) (by simpa using h)
    exact ⟨by simpa using h1, by simpa [keyD] using h2⟩
/-- a new thing that may be written is locked: it is data from now on -/
def tLockV (t : TE) : TE := fun σ H Q => t σ H fun v H' => ∃ a u, v = .ref a ∧ H' a = some u ∧ Mut (some u) ∧ ∀ o, Q v (upd H' a (.frz o u))
theorem pe_lockV {e : Expr} {t : TE} (h : PE X e t) : PE X e (tLockV t) := by
  refine ⟨fun pins s σ H Q I hw => ?_⟩
  refine thn (h.run pins s σ H _ I hw) fun v s1 ⟨x, H1, I1, r, q⟩ => ?_
  obtain ⟨a, u, rfl, h1, mu, q⟩ := q
  obtain ⟨od, I2⟩ := I1.lock h1 mu
  exact ⟨.ref a, _, I2, r, q od⟩
theorem s_dict {keys : List (Option Expr)} {ks : List Str} {es : List Expr} {cs : List E} {pos : Pos} (G : Gd X S W C F) (hk : keys.mapM keyE = some ks) (hl : keys.length = es.length) (h15 : keys.length ≤ 15) (h : SEs X S W F es cs) :
    SE X S W F (.Dict keys es pos) (.dict ks cs) := by
  have lk : ks.length = keys.length := (mapM_len hk).symm
  have lc := h.length
  refine ⟨?_, pt_stuck fun env g => by simp only [evT]; rfl, fun _ _ => rfl⟩
  by_cases h0 : keys = []
  · subst h0
    have hk : some [] = some ks := by simpa using hk
    cases hk
    cases h with
    | cons _ _ => simp at hl
    | nil =>
      refine PE.weak (pe_lockV pe_dnewK) fun σ H Q q => ?_
      obtain ⟨env, g, He, H0e, H0, R, q⟩ := q
      simp only [ev, evs] at q
      intro p hp
      refine ⟨p, .dK [], rfl, upd_same, trivial, fun o => ?_⟩
      rw [upd_upd]
      exact q _ _ _ (Aft.new R.sub R.gen R.tabs hp (fun ps z => by cases z)) (Dr.dct (kvs := []) (ds := []) upd_same .nil)
  · have hall : keys.all (·.isSome) = true := by
      rw [List.all_eq_true]
      intro k hkm
      cases k with
      | some _ => rfl
      | none =>
        exfalso
        have : ∀ {l : List (Option Expr)} {r : List Str}, none ∈ l → l.mapM keyE = some r → False := by
          intro l
          induction l with
          | nil => intro r h; cases h
          | cons a l ih =>
            intro r hm e
            rw [List.mapM_cons] at e
            cases e1 : keyE a with
            | none => rw [e1] at e; cases e
            | some k =>
              cases e2 : l.mapM keyE with
              | none => rw [e1, e2] at e; cases e
              | some ks' =>
                rcases List.mem_cons.mp hm with z | z
                · subst z; cases e1
                · exact ih z e2
        exact this hkm hk
    refine PE.weak (pe_lockV (pe_disp (keys_pps hk h hl) hall hl h0 h15)) fun σ H Q q => ?_
    obtain ⟨env, g, He, H0e, H0, R, q⟩ := q
    simp only [ev] at q
    intro p hp
    have a0 : Aft S g H0 H H0 (upd H p (.dK [])) := Aft.grow R.sub R.gen R.tabs hp
    have ng : S.gm ≠ some p := fun z => by
      obtain ⟨gl, e1, _⟩ := R.gen p z
      rw [hp] at e1; cases e1
    have R0 := R.step a0
    have q2 : Pst S W σ H0 (upd H p (.dK [])) (VRs S) (fun vs H2 => vs.length = ks.length → H2 p = some (.dK []) ∧ ∃ kvs : List (Key × V), (ks.zip vs).map (fun q => (V.str q.1, q.2)) = kvs.map (fun kv => (kV kv.1, kv.2)) ∧ kvs.length ≤ 15 ∧ ∃ a u, V.ref p = .ref a ∧ upd H2 p (.dK (mergeK [] kvs)) a = some u ∧ Mut (some u) ∧ ∀ o, Q (.ref p) (upd (upd H2 p (.dK (mergeK [] kvs))) a (.frz o u))) (evs F cs env g) := by
      unfold M.bd at q
      cases e : evs F cs env g with
      | st => rw [e] at q; exact q
      | er c d g' => rw [e] at q; exact fun dx v H0' H' a q1 q2 => q dx v H0' H' (a0.trans a) q1 q2
      | ok xs g' =>
        rw [e] at q
        intro vs H1 H1' a r ev
        dsimp only at q
        cases e1 : xs.mapM dOf with
        | none => rw [e1] at q; exact q.elim
        | some ds =>
          rw [e1] at q
          have hd := drs_of r e1
          dsimp only [M.ofO, M.pu] at q
          split at q
          · rename_i hz
            have hp2 : H1' p = some (.dK []) := a.stp.fr p _ upd_same ng (fun ps z => by cases z)
            have h1p : H1 p = none := by
              cases z : H1 p with
              | none => rfl
              | some u =>
                rcases a.stp.fresh p (by rw [z]; simp) with y | y
                · exact absurd (R.sub.free hp) y
                · exact absurd rfl (y.ne upd_same (fun ps z => by cases z))
            obtain ⟨z1, z2⟩ := zip_keys (ks := ks) (vs := vs) ev
            refine ⟨hp2, (ks.zip vs).map fun q => ((.inr q.1 : Key), q.2), by simp [kV], by simp; omega, ?_⟩
            rw [merge_new hz.2.1 (by simp), List.nil_append]
            refine ⟨p, _, rfl, upd_same, trivial, fun o => ?_⟩
            rw [upd_upd]
            have a2 := (a0.trans a).put (o := .frz o <| .dK ((ks.zip vs).map fun q => ((.inr q.1 : Key), q.2))) (.inl hp) h1p ng hp2 (fun ps z => by cases z) (fun c q z => by unfold LamX.CodeO at z; cases z) (fun ps z => by cases z)
            refine q (.ref p) _ _ a2 ?_
            have dd : Dr S.K (upd H1 p (.frz o (.dK ((ks.zip vs).map fun q => ((.inr q.1 : Key), q.2))))) (.ref p) (.dict ((((ks.zip vs).map fun q => ((.inr q.1 : Key), q.2)).map fun q => keyD q.1).zip ds)) :=
              Dr.dct upd_same (by rw [z1]; exact hd.same (same_new h1p))
            rw [z2] at dd
            exact dd
          · exact q.elim
    exact pairs_read (by rw [lk, hl, lc]) ⟨env, g, He, H0e, H0, R0, q2⟩ fun vs H' e hq => hq e
end

/-! ### a tuple whose last part is a star -/
section
variable {X : Cx} {S : Sig} {W : WX} {C : Cfg} {F : Fns}
theorem seqOf_inv {H0 H : Hp} {v : V} {y : Vl} {zs : List D} (sub : Same H0 H) (r : VR S H0 H v y) (e : seqOf y = some zs) : ∃ p xs, v = .ref p ∧ (SqT S.K H p xs ∨ SqL S.K H p xs) ∧ DrAll S.K H0 xs zs := by
  unfold seqOf at e
  split at e
  · cases e
    obtain ⟨a, xs, rfl, h1, h2⟩ := Dr.lst_inv r
    exact ⟨a, xs, rfl, .inr (.inl (Rd.of (sub _ _ h1))), h2⟩
  · cases e
    obtain ⟨a, xs, rfl, h1, h2⟩ := Dr.tup_inv r
    exact ⟨a, xs, rfl, .inl (sqT_same sub h1), h2⟩
  · cases e
    obtain ⟨a, xs, rfl, h1, h2⟩ := r
    exact ⟨a, xs, rfl, .inr (.inl (Rd.of h1)), h2⟩
  · cases e
def evsS (F : Fns) (cs : List E) (c : E) (env : Env) : M (List Vl × List D) := (evs F cs env).bd fun xs => (ev F c env).bd fun y => (M.ofO (seqOf y)).bd fun zs => .pu (xs, zs)
def relS2 (S : Sig) : Hp → Hp → List V → List Vl × List D → Prop := fun H0 H vs q => ∃ v1 v2, vs = v1 ++ v2 ∧ VRs S H0 H v1 q.1 ∧ DrAll S.K H0 v2 q.2
theorem pa_last (G : Gd X S W C F) {e : Expr} {p : Pos} {c : E} (he : SE X S W F e c) : ∀ {es : List Expr} {cs : List E}, SEs X S W F es cs → PA X (es ++ [.Starred e p]) (RX S W (relS2 S) (evsS F cs c))
  | _, _, .nil => PA.weak (StX.pa_star he.pe pa_nil) fun σ H Q h => by
    obtain ⟨env, g, He, H0e, H0, R, h⟩ := h
    simp only [evsS, evs, M.pu_bd] at h
    refine ⟨env, g, He, H0e, H0, R, Pst.bd h fun y g1 v H1 H1' a1 r1 h1 => ?_⟩
    rw [M.ofO_bd] at h1
    cases e2 : seqOf y with
    | none => rw [e2] at h1; exact h1.elim
    | some zs =>
      rw [e2] at h1
      obtain ⟨q, xs, rfl, hq, hd⟩ := seqOf_inv a1.sub r1 e2
      refine ⟨q, xs, rfl, by rw [G.hK]; exact hq, ?_⟩
      show Q (xs ++ []) H1'
      rw [List.append_nil]
      exact h1 xs H1 H1' (Aft.refl (R.step a1)) ⟨[], xs, rfl, .nil, hd⟩
  | _ :: _, c0 :: cs, .cons h hs => PA.weak (pa_cons h.pe (pa_last G he hs) (h.ns _ _)) fun σ H Q q => by
    obtain ⟨env, g, He, H0e, H0, R, q⟩ := q
    have q : Pst S W σ H0 H (relS2 S) Q (((ev F c0 env).bd fun x => (evsS F cs c env).bd fun z => .pu (x :: z.1, z.2)) g) := by
      simpa only [evsS, evs, M.bd_assoc, M.pu_bd] using q
    refine ⟨env, g, He, H0e, H0, R, Pst.bd q fun x g1 v H1 H1' a1 r1 h1 => ?_⟩
    refine ⟨env, g1, He, H0e, H1, R.step a1, Pst.bd h1 fun z g2 vs H2 H2' a2 r2 h2 => ?_⟩
    obtain ⟨v1, v2, rfl, k1, k2⟩ := r2
    exact h2 _ H2 H2' (Aft.refl ((R.step a1).step a2)) ⟨v :: v1, v2, rfl, .cons (r1.step (R.step a1).gen a2) k1, k2⟩
theorem s_tups {es : List Expr} {cs : List E} {e : Expr} {c : E} {k : Nat} {p pos : Pos} (G : Gd X S W C F) (h : SEs X S W F es cs) (he : SE X S W F e c) : SE X S W F (.Tuple (es ++ [.Starred e p]) k pos) (.tups cs c) := by
  refine ⟨PE.weak (pe_tup (pa_last G he h)) fun σ H Q q => ?_, ?_, fun _ _ => rfl⟩
  · obtain ⟨env, g, He, H0e, H0, R, q⟩ := q
    have q : Pst S W σ H0 H (VR S) Q (((evsS F cs c env).bd fun z => (M.ofO (z.1.mapM dOf)).bd fun ds => if ds.length + z.2.length ≤ sizeLine then .pu (.d (.tuple (ds ++ z.2))) else .stuck) g) := by
      simpa only [ev, evsS, M.bd_assoc, M.pu_bd] using q
    refine ⟨env, g, He, H0e, H0, R, Pst.bd q fun z g1 vs H1 H1' a1 r1 h1 => ?_⟩
    rw [M.ofO_bd] at h1
    cases e : z.1.mapM dOf with
    | none => rw [e] at h1; exact h1.elim
    | some ds =>
      rw [e] at h1
      obtain ⟨v1, v2, rfl, k1, k2⟩ := r1
      have hd := (drs_of k1 e).append k2
      by_cases hl : ds.length + z.2.length ≤ sizeLine
      · simp only [if_pos hl] at h1
        refine ⟨by rw [hd.length, List.length_append]; exact hl, fun p hp => ?_⟩
        have R1 := R.step a1
        exact h1 _ _ _ (Aft.new R1.sub R1.gen R1.tabs hp (fun ps z => by cases z)) (Dr.tup (SqT.of upd_same) (hd.same (same_new (R1.sub.free hp))))
      · simp only [if_neg hl] at h1; exact h1.elim
  · refine ⟨fun pins s σ H Q I q => ?_⟩
    simp only [evT] at q
    obtain ⟨env, g, He, H0e, H0, R, q⟩ := q
    exact q.elim
/-! ### a word's place in a tuple of the module -/
theorem drs_strs {K : KW} {H : Hp} : ∀ {vs : List V} {ds : List D} {ys : List Str}, DrAll K H vs ds → ds.mapM strD = some ys → vs = ys.map V.str
  | _, _, ys, .nil, e => by
    have e : some [] = some ys := by simpa using e
    cases e; rfl
  | _, d :: ds, ys, .cons r rs, e => by
    rw [List.mapM_cons] at e
    cases e1 : strD d with
    | none => rw [e1] at e; cases e
    | some x =>
      cases e2 : ds.mapM strD with
      | none => rw [e1, e2] at e; cases e
      | some xs =>
        rw [e1, e2] at e
        have e3 : x :: xs = ys := Option.some.inj e
        subst e3
        cases d with
        | str z => cases e1; cases r; rw [drs_strs rs e2]; rfl
        | _ => cases e1
theorem idxS_spec : ∀ {ys : List Str} {x : Str} {i : Nat}, idxS x ys = some i → ys[i]? = some x ∧ ∀ m, m < i → ys[m]? ≠ some x
  | [], _, _, e => by cases e
  | y :: ys, x, i, e => by
    unfold idxS at e
    split at e
    · rename_i h
      cases e
      subst h
      exact ⟨rfl, fun m hm => absurd hm (Nat.not_lt_zero _)⟩
    · rename_i h
      obtain ⟨j, h1, h2⟩ := Option.map_eq_some_iff.mp e
      subst h2
      obtain ⟨k1, k2⟩ := idxS_spec h1
      refine ⟨by simpa using k1, fun m hm => ?_⟩
      cases m with
      | zero => simpa using h
      | succ m => simpa using k2 m (by omega)
theorem s_idx {x : Str} {p apos cpos : Pos} {e : Expr} {c : E} {d : D} (G : Gd X S W C F) (hg : glB C.sc x = true) (hd : (!dbg x) = true) (hl : (apos.endLine == cpos.line) = true) (hc : C.consts.lookup x = some d) (ht : isTupD d = true) (he : SE X S W F e c) :
    SE X S W F (.Call (.Attribute (.Name x p) "index" apos) [e] [] cpos) (.idx d c) := by
  obtain ⟨u, v, h1, h2, h3, h4⟩ := G.cst x d hc
  obtain ⟨q, o, rfl, k1, k2, k3⟩ := h4 ht
  have po : PE X (.Name x p) (tC (.ref q)) := pe_glob (gl_of G.hsc hg) h1 h2 (dbg_of hd).1
  have hp : PE X (.Call (.Attribute (.Name x p) "index" apos) [e] [] cpos) (RE S W fun env => (ev F c env).bd fun x => .ofO (((asD x).bind (idxD d)).map .d)) := by
    refine PE.weak (pe_bm PySem.F.plainAttrs_tuple PySem.F.slot_tuple_index rfl mt_tup_index po (pa_cons he.pe pa_nil (he.ns _ _)) rfl (by rw [he.ns]; rfl) hl (he.ns _ _) rfl) fun σ H Q h => ?_
    obtain ⟨env, g, He, H0e, H0, R, h⟩ := h
    refine ⟨.inr (.inl ⟨rfl, o, by rw [G.hK]; exact k1, k2, k3⟩), env, g, He, H0e, H0, R, Pst.bd h fun y g1 w H1 H1' a1 r1 h1 => ?_⟩
    cases e1 : asD y with
    | none => rw [e1] at h1; exact h1.elim
    | some b =>
      rw [e1] at h1
      cases e2 : idxD d b with
      | none =>
        have h1 : Pst S W σ H1 H1' (VR S) Q (M.ofO ((idxD d b).map .d) g1) := h1
        rw [e2] at h1; exact h1.elim
      | some z =>
        have h1 : Pst S W σ H1 H1' (VR S) Q (M.ofO ((idxD d b).map .d) g1) := h1
        rw [e2] at h1
        have r2 := r1.full a1.sub e1
        unfold idxD at e2
        split at e2
        · rename_i ds s
          obtain ⟨ys, l1, e2⟩ := Option.bind_eq_some_iff.mp e2
          obtain ⟨i, l2, rfl⟩ := Option.map_eq_some_iff.mp e2
          obtain rfl := Dr.str_inv r2
          obtain ⟨a, xs, z1, z2, z3⟩ := Dr.tup_inv (h3 H1')
          cases z1
          obtain rfl := drs_strs z3 l1
          obtain ⟨m1, m2⟩ := idxS_spec l2
          exact ⟨_, ys, s, i, rfl, rfl, by rw [G.hK]; exact z2, m1, m2, h1 _ H1 H1' (Aft.refl (R.step a1)) (Dr.int _)⟩
        · cases e2
  refine ⟨RE.eq hp fun env => by simp only [ev], ?_, fun _ _ => rfl⟩
  refine ⟨fun pins s σ H Q I q => ?_⟩
  simp only [evT] at q
  obtain ⟨env, g, He, H0e, H0, R, q⟩ := q
  exact q.elim
/-! ### a thing's place in a list -/
theorem ifS' {c : Prop} [Decidable c] {α : Type} {o : Option α} {z : α} (e : (if c then o else none) = some z) : c ∧ o = some z := by
  split at e
  · exact ⟨by assumption, e⟩
  · cases e
theorem mapS {α β : Type} {o : Option α} {f : α → β} {b : β} (h : o.map f = some b) : ∃ a, o = some a ∧ f a = b := by
  cases o with
  | none => cases h
  | some a => exact ⟨a, rfl, Option.some.inj h⟩
theorem idxF_spec {K : KW} {H : Hp} {w : V} {y : D} (r : Dr K H w y) (hy : isFlat y = true) : ∀ {xs : List V} {ds : List D} {i : Nat}, DrAll K H xs ds → ds.all isFlat = true → idxF y ds = some i →
    ∃ z, xs[i]? = some z ∧ eqV z w = true ∧ ∀ (m : Nat) (z' : V), m < i → xs[m]? = some z' → eqV z' w = false
  | _, _, _, .nil, _, e => by cases e
  | v :: vs, d :: ds, i, .cons h hs, f, e => by
    simp only [List.all_cons, Bool.and_eq_true] at f
    have q := eqV_of h r f.1 hy
    unfold idxF at e
    split at e
    · rename_i c
      cases e
      exact ⟨v, rfl, by rw [q]; exact c, fun m z' hm => absurd hm (Nat.not_lt_zero _)⟩
    · rename_i c
      obtain ⟨j, h1, h2⟩ := Option.map_eq_some_iff.mp e
      subst h2
      obtain ⟨z, k1, k2, k3⟩ := idxF_spec r hy hs f.2 h1
      refine ⟨z, by simpa using k1, k2, fun m z' hm hz => ?_⟩
      cases m with
      | zero =>
        have hz : v = z' := by simpa using hz
        rw [← hz, q]
        exact Bool.eq_false_iff.mpr c
      | succ m => exact k3 m z' (by omega) (by simpa using hz)
theorem s_idl {p apos cpos : Pos} {es : List Expr} {e : Expr} {a c : E} (G : Gd X S W C F) (hl : (apos.endLine == cpos.line) = true) (ha : SE X S W F (.List es p) a) (he : SE X S W F e c) :
    SE X S W F (.Call (.Attribute (.List es p) "index" apos) [e] [] cpos) (.idl a c) := by
  have hp : PE X (.Call (.Attribute (.List es p) "index" apos) [e] [] cpos) (RE S W fun env => (ev F a env).bd fun x => (M.ofO (lsOf x)).bd fun ds => (ev F c env).bd fun y => .ofO (((asD y).bind (idlD ds)).map .d)) := by
    refine PE.weak (pe_bm PySem.F.plainAttrs_list PySem.F.slot_list_index rfl mt_index ha.pe (pa_cons he.pe pa_nil (he.ns _ _)) rfl (by rw [he.ns]; rfl) hl (he.ns _ _) rfl) fun σ H Q h => ?_
    obtain ⟨env, g, He, H0e, H0, R, h⟩ := h
    refine ⟨env, g, He, H0e, H0, R, Pst.bd h fun x g1 v H1 H1' a1 r1 h1 => ?_⟩
    have R1 := R.step a1
    cases e1 : lsOf x with
    | none => rw [e1] at h1; exact h1.elim
    | some ds =>
      rw [e1] at h1
      unfold lsOf at e1
      split at e1
      · rename_i e3
        cases e1
        obtain ⟨q, xs, rfl, k1, k2⟩ := r1.lst a1.sub e3
        refine ⟨.inl ⟨rfl, xs, .inl (Rd.of k1)⟩, env, g1, He, H0e, H1, R1, Pst.bd h1 fun y g2 w H2 H2' a2 r2 h2 => ?_⟩
        cases e4 : asD y with
        | none => rw [e4] at h2; exact h2.elim
        | some b =>
          rw [e4] at h2
          have h2 : Pst S W σ H2 H2' (VR S) Q (M.ofO ((idlD ds b).map .d) g2) := h2
          cases e5 : idlD ds b with
          | none => rw [e5] at h2; exact h2.elim
          | some z =>
            rw [e5] at h2
            unfold idlD at e5
            obtain ⟨hc, e5⟩ := ifS' e5
            rw [Bool.and_eq_true] at hc
            obtain ⟨i, e6, rfl⟩ := mapS e5
            have hy := r2.full a2.sub e4
            have k1' : H2' q = some (.lst xs) := a2.stp.fr _ _ k1 (R1.gen.nlst k1) (fun ps z => by cases z)
            have k3 := (k2.same a2.stp.s0).same a2.sub
            obtain ⟨z, l1, l2, l3⟩ := idxF_spec hy hc.1 k3 hc.2 e6
            exact ⟨q, xs, w, i, z, rfl, rfl, .inl (Rd.of k1'), flatV_of hy hc.1, flats_of k3 hc.2, l1, l2, l3, h2 _ H2 H2' (Aft.refl (R1.step a2)) (Dr.int _)⟩
      · cases e1
  refine ⟨RE.eq hp fun env => by simp only [ev], ?_, fun _ _ => rfl⟩
  refine ⟨fun pins s σ H Q I q => ?_⟩
  simp only [evT] at q
  obtain ⟨env, g, He, H0e, H0, R, q⟩ := q
  exact q.elim
theorem dct_inv {K : KW} {H : Hp} {v : V} {kvs : List (D × D)} (h : Dr K H v (.dict kvs)) : ∃ (a : Addr) (o : Obj) (kv : List (Key × V)) (ds : List D), v = .ref a ∧ H a = some (.frz o (.dK kv)) ∧ DrAll K H (kv.map (·.2)) ds ∧ kvs = (kv.map fun q => keyD q.1).zip ds := by
  cases h with
  | dct h1 h2 => exact ⟨_, _, _, _, rfl, h1, h2, rfl⟩
theorem s_gt {o e : Expr} {apos cpos kp : Pos} {kk : Nat} {a c : E} (G : Gd X S W C F) (ho : isCallE o = true) (hl : (apos.endLine == cpos.line) = true) (ha : SE X S W F o a) (he : SE X S W F e c) :
    SE X S W F (.Call (.Attribute o "get" apos) [e, .Constant .none kk kp] [] cpos) (.gt a c) := by
  have hu : X.A.units + 1 < cLine := by have := G.room.un; omega
  have ns2 : starEach [e, .Constant .none kk kp] X.env = [(false, eval e X.env), (false, eval (.Constant .none kk kp) X.env)] := by rw [he.ns]; rfl
  have m : M2 X o "get" apos e (.Constant .none kk kp) cpos := ⟨(by
    unfold isCallE at ho
    split at ho
    · rfl
    · cases ho), (by rw [ns2]; rfl), hl, (by rw [ns2]; rfl)⟩
  have hp : PE X (.Call (.Attribute o "get" apos) [e, .Constant .none kk kp] [] cpos) (RE S W fun env => (ev F a env).bd fun x => (M.ofO (kvOf x)).bd fun kvs => (ev F c env).bd fun y => .ofO (((asD y).bind (getK kvs)).map .d)) := by
    refine PE.weak (pe_dget2 hu ha.pe he.pe pe_non m) fun σ H Q h => ?_
    obtain ⟨env, g, He, H0e, H0, R, h⟩ := h
    refine ⟨env, g, He, H0e, H0, R, Pst.bd h fun x g1 v H1 H1' a1 r1 h1 => ?_⟩
    have R1 := R.step a1
    cases e1 : kvOf x with
    | none => rw [e1] at h1; exact h1.elim
    | some kvs =>
      rw [e1] at h1
      unfold kvOf at e1
      split at e1
      · rename_i e3
        cases e1
        have hd0 := r1.dct e3
        obtain ⟨q, o1, kv1, ds1, rfl, k1, _, _⟩ := dct_inv (hd0.same a1.sub)
        refine ⟨q, rfl, .inl ⟨kv1, .inr ⟨o1, k1⟩⟩, env, g1, He, H0e, H1, R1, Pst.bd h1 fun y g2 w H2 H2' a2 r2 h2 => ?_⟩
        cases e4 : asD y with
        | none => rw [e4] at h2; exact h2.elim
        | some b =>
          rw [e4] at h2
          have h2 : Pst S W σ H2 H2' (VR S) Q (M.ofO ((getK kvs b).map .d) g2) := h2
          cases e5 : getK kvs b with
          | none => rw [e5] at h2; exact h2.elim
          | some z =>
            rw [e5] at h2
            unfold getK at e5
            obtain ⟨hc, e5⟩ := ifS' e5
            rw [Bool.and_eq_true] at hc
            obtain ⟨kk, rfl⟩ := isKey_inv hc.1
            have ex := dr_key (r2.full a2.sub e4)
            subst ex
            obtain ⟨q', o2, kv2, ds2, eq2, k3, k4, rfl⟩ := dct_inv (hd0.same a2.stp.s0)
            cases eq2
            rcases dFind_of kk k4 with ⟨f1, f2⟩ | ⟨v', d', f1, f2, f3⟩
            · rw [f2] at e5
              cases e5
              exact ⟨none, .inl ⟨kv2, kk, .inr ⟨o2, a2.sub _ _ k3⟩, rfl, f1.symm⟩, h2 _ H2 H2' (Aft.refl (R1.step a2)) Dr.non⟩
            · rw [f2] at e5
              cases e5
              exact ⟨some v', .inl ⟨kv2, kk, .inr ⟨o2, a2.sub _ _ k3⟩, rfl, f1.symm⟩, h2 _ H2 H2' (Aft.refl (R1.step a2)) f3⟩
      · cases e1
  refine ⟨RE.eq hp fun env => by simp only [ev], ?_, fun _ _ => rfl⟩
  refine ⟨fun pins s σ H Q I q => ?_⟩
  simp only [evT] at q
  obtain ⟨env, g, He, H0e, H0, R, q⟩ := q
  exact q.elim
end
end PD
set_option Elab.async false
set_option linter.all false
set_option maxRecDepth 100000
set_option maxHeartbeats 4000000
namespace PD
open PySem PySem.Spec L2 PyProof.Rows

/-- an empty set of this world -/
abbrev emptyS (w : World) : Obj := { cls := .type "set", dict := none, data := .set #[] 0 (.fresh 0 0 (!w.params.followText "set-order")) }
/-- what a set made of a list says -/
def MadeS (w : World) (s : Shared) (ns : List Int) (z : Value) (t : Shared) : Prop := z = .none ∧ ∃ (hq : Heap) (kq cq : Nat), t = { s with heap := hq, toks := kq } ∧ SetR w hq s.heap.objs.size (fun j => decide (j ∈ ns)) cq ∧ cq ≤ ns.length ∧ ∀ b o, s.heap.get? b = some o → hq.get? b = some o
section
variable {P : Program} {w : World} {A : Around} {E : Value → Shared → Prop} {s : Shared}
set_option maxHeartbeats 6400000 in
theorem set_lst {p : Addr} {xs : Array Value} (ns : List Int) {Q : Value → Shared → Prop} (ah : A.handled = none) (hp : s.heap.IsList p xs) (hx : IntsAre xs.toList ns) (small : ns.length + 1 < scanBound)
    (q : ∀ (hq : Heap) (kq cq : Nat), SetR w hq s.heap.objs.size (fun j => decide (j ∈ ns)) cq → cq ≤ ns.length → (∀ b o, s.heap.get? b = some o → hq.get? b = some o) → Q (.ref s.heap.objs.size) { s with heap := hq, toks := kq }) :
    wpAny (model P w) A (call (.type "set") [.ref p]) Q E s := by
  have sz : xs.size = ns.length := (Array.length_toList (xs := xs)).symm.trans (IntsAre.length hx)
  obtain ⟨cm, tm, mro⟩ := F.called_set.mro
  have made := F.called_set.made; have sub0 := F.called_set.sub
  refine wpAny_call (codeAny_of_tree ?_); show wpAny _ _ (callAny (.type "set") _) _ _ _
  refine wpAny_pure ⟨Code.quiet_builtin _ (by decide +kernel), codeAny_builtin F.entry_type_call ?_⟩; rw [Around.under_plain (weight_type_call_type "set" [.ref p] []) rfl]
  have n1 := F.called_set.notType; have n2 := F.called_set.canCreate; have n3 := F.typeCall_set_1 (.ref p)
  repeat (any_goals (first | assumption | wp_step))
  refine codeAny_mono (code_set_led1 (.ref p) (E := E) (Q₁ := fun z t => z = .ref s.heap.objs.size ∧ t = { s with heap := s.heap.push (emptyS w) }) ⟨rfl, rfl⟩) fun z1 t1 hz1 => ?_
  cases z1 with
  | error e => exact hz1
  | ok f1 =>
    cases f1 with
    | ret ob =>
      obtain ⟨rfl, rfl⟩ := hz1
      have gS : (s.heap.push (emptyS w)).get? s.heap.objs.size = some (emptyS w) := Heap.get?_push_size _ rfl
      have tS : Shared.TypeIs { s with heap := s.heap.push (emptyS w) } (.ref s.heap.objs.size) "set" := ⟨_, gS, rfl⟩
      have n4 := F.called_set.init.lookup; have n5 := F.called_set.init.bind (.ref s.heap.objs.size)
      repeat (any_goals (first | assumption | wp_step))
      refine codeAny_mono (codeAny_call_builtin (R := wants (MadeS w s ns) E) F.called_set.init.plain F.entry_set_init (check_set_init_1 tS ?_)) fun z2 t2 hz2 => ?_
      · obtain ⟨⟨oc, od, odt, os⟩, go, hc, nn, hd⟩ := hp
        simp only at hc hd
        subst hc; subst hd
        have go' : (s.heap.push (emptyS w)).get? p = some { cls := .type "list", dict := od, data := .seq xs nn, slots := os } := Heap.get?_push_of_some _ go
        have n6 := F.sub_list_set; have n7 := F.sub_list_frozenset
        have n8 : (Value.type "list" == Value.type "dict") = false := by decide
        have isl : (s.heap.push (emptyS w)).IsList p xs := ⟨_, go', rfl, nn, rfl⟩
        unfold Builtin.«set.__init__» noKeywords Builtin.Frozenset.updateFrom
        generalize gI : pyIter = II
        wp_walk
        subst gI
        refine wpAny_pyIter_list isl ?_; refine wpAny_bind (wpAny_runValue ?_)
        have ltp : p < s.heap.objs.size := Heap.lt_size go
        have ah3 : A.in1.in1.in1.handled = none := by simp [ah]
        have szS : (s.heap.push (emptyS w)).objs.size = s.heap.objs.size + 1 := Heap.size_push ..
        have neI : p ≠ (s.heap.push (emptyS w)).objs.size := by rw [szS]; exact Nat.ne_of_lt (Nat.lt_succ_of_lt ltp)
        have nS : s.heap.objs.size ∉ [(s.heap.push (emptyS w)).objs.size, p] := by
          rw [szS]
          intro hm
          rcases List.mem_cons.mp hm with e | hm
          · omega
          · exact absurd (List.mem_singleton.mp hm) (Nat.ne_of_gt ltp)
        have vals : ∀ (i : Nat) (v : Value), xs[i]? = some v → ∃ k t, ns[i]? = some k ∧ v = .int k t := fun i v hv => by
          have li : i < ns.length := by rw [← sz]; exact (Array.getElem?_eq_some_iff.mp hv).1
          obtain ⟨t, e⟩ := PyProof.Rows.IntsAre.int_at hx i v (by rw [Array.getElem?_toList]; exact hv)
          exact ⟨ns[i], t, List.getElem?_eq_getElem li, by rw [e, List.getD_eq_getElem?_getD, List.getElem?_eq_getElem li] <;> rfl⟩
        refine set_update_ints ((Walks.list ah3 _ p neI xs).toS) s.heap.objs.size nS ns sz small vals (xs.size - 0) 0 _ (by omega) (Nat.zero_le _) ⟨⟨_, Heap.get?_push_size _ rfl, rfl, rfl⟩, (isl.push _)⟩ ?start ?last
        case start => exact ⟨0, Nat.le_refl 0, setR_new_at (Heap.get?_push_of_some _ gS)⟩
        case last =>
          intro t3 c3 mv lc rS
          obtain ⟨hq, gq, dq, kq, oq⟩ := t3
          have eg : gq = s.gens := mv.gens
          have ed : dq = s.drawn := mv.drawn
          have eo : oq = s.os := mv.os
          subst eg; subst ed; subst eo
          show wpAny _ _ _ _ _ _
          refine wpAny_pure ?_
          show wpAny _ _ (ret Value.none) _ _ _
          rw [sz] at lc
          refine wpAny_pure ⟨rfl, hq, kq, c3, rfl, rS, lc, fun b o e => ?_⟩
          have lb : b < s.heap.objs.size := Heap.lt_size e
          refine mv.heap b o (fun hm => ?_) (Heap.get?_push_of_some _ (Heap.get?_push_of_some _ e))
          rcases List.mem_cons.mp hm with e1 | hm
          · exact absurd e1 (Nat.ne_of_lt lb)
          · have e2 := List.mem_singleton.mp hm
            rw [szS] at e2
            exact absurd e2 (Nat.ne_of_lt (Nat.lt_succ_of_lt lb))
      · cases z2 with
        | error e => exact hz2
        | ok f2 =>
          cases f2 with
          | ret r =>
            obtain ⟨rfl, hq, kq, cq, rfl, rS, lc, old⟩ := hz2
            repeat (any_goals (first | assumption | wp_step))
            exact q _ _ _ rS lc old
          | _ => exact hz2.elim
    | _ => exact hz1.elim
end
/-! ### sorted(set(xs)) of whole numbers -/
theorem insI_mem {x y : Int} : ∀ {l : List Int}, y ∈ insI x l ↔ y = x ∨ y ∈ l
  | [] => by simp [insI]
  | z :: r => by
    unfold insI
    split
    · simp
    · split
      · rename_i e
        subst e
        simp
      · rw [List.mem_cons, List.mem_cons, insI_mem]
        exact ⟨fun h => by rcases h with h | h | h <;> simp [h], fun h => by rcases h with h | h | h <;> simp [h]⟩
theorem ssI_mem {y : Int} : ∀ {ns : List Int}, y ∈ ssI ns ↔ y ∈ ns
  | [] => by simp [ssI]
  | x :: r => by
    show y ∈ insI x (ssI r) ↔ _
    rw [insI_mem, ssI_mem, List.mem_cons]
theorem insI_up {x : Int} : ∀ {l : List Int}, l.Pairwise (· < ·) → (insI x l).Pairwise (· < ·)
  | [], _ => by simp [insI]
  | z :: r, h => by
    obtain ⟨h1, h2⟩ := List.pairwise_cons.mp h
    unfold insI
    split
    · rename_i e
      refine List.pairwise_cons.mpr ⟨fun a ha => ?_, h⟩
      rcases List.mem_cons.mp ha with rfl | ha
      · exact e
      · exact Int.lt_trans e (h1 a ha)
    · split
      · exact h
      · rename_i e1 e2
        refine List.pairwise_cons.mpr ⟨fun a ha => ?_, insI_up h2⟩
        rcases insI_mem.mp ha with rfl | ha
        · omega
        · exact h1 a ha
theorem ssI_up : ∀ {ns : List Int}, (ssI ns).Pairwise (· < ·)
  | [] => List.Pairwise.nil
  | x :: r => insI_up ssI_up
theorem up_one : ∀ {l m : List Int}, l.Pairwise (· < ·) → m.Pairwise (· < ·) → (∀ k, k ∈ l ↔ k ∈ m) → l = m
  | [], [], _, _, _ => rfl
  | [], y :: m, _, _, h => absurd ((h y).mpr (by simp)) (by simp)
  | x :: l, [], _, _, h => absurd ((h x).mp (by simp)) (by simp)
  | x :: l, y :: m, hl, hm, h => by
    obtain ⟨l1, l2⟩ := List.pairwise_cons.mp hl
    obtain ⟨m1, m2⟩ := List.pairwise_cons.mp hm
    have exy : x = y := by
      rcases List.mem_cons.mp ((h x).mp (by simp)) with e | e
      · exact e
      · rcases List.mem_cons.mp ((h y).mpr (by simp)) with e' | e'
        · exact e'.symm
        · have := m1 x e
          have := l1 y e'
          omega
    subst exy
    refine congrArg (x :: ·) (up_one l2 m2 fun k => ⟨fun hk => ?_, fun hk => ?_⟩)
    · rcases List.mem_cons.mp ((h k).mp (by simp [hk])) with e | e
      · have := l1 k hk
        omega
      · exact e
    · rcases List.mem_cons.mp ((h k).mpr (by simp [hk])) with e | e
      · have := m1 k hk
        omega
      · exact e
theorem ints_of_dr {K : KW} {H : Hp} : ∀ {xs : List V} {ds : List D} {ns : List Int}, DrAll K H xs ds → ds.mapM intO = some ns → xs = ns.map V.int
  | _, _, ns, .nil, e => by
    have e : some [] = some ns := by simpa using e
    cases e; rfl
  | _, d :: ds, ns, .cons r rs, e => by
    rw [List.mapM_cons] at e
    cases e1 : intO d with
    | none => rw [e1] at e; cases e
    | some i =>
      cases e2 : ds.mapM intO with
      | none => rw [e1, e2] at e; cases e
      | some is =>
        rw [e1, e2] at e
        have e3 : i :: is = ns := Option.some.inj e
        subst e3
        have h := ints_of_dr rs e2
        subst h
        unfold intO at e1
        split at e1
        · cases e1
          rw [r.int_inv]
          rfl
        · cases e1
theorem dr_ints {K : KW} {H : Hp} : ∀ (ns : List Int), DrAll K H (ns.map V.int) (ns.map PyData.int)
  | [] => .nil
  | n :: ns => .cons (Dr.int n) (dr_ints ns)
def rSetI (K : PySem.W.Frag) (w : World) : List V → Hp → VK → Prop := fun vs H Q => ∃ (l : Addr) (ns : List Int), vs = [V.ref l] ∧ SqL K H l (ns.map V.int) ∧ ns.length + 1 < scanBound ∧ ∀ (p : Addr) (c : Nat), c ≤ ns.length → H p = none → Q (.ref p) (upd H p (SetO w p (fun j => decide (j ∈ ns)) c))
theorem cr_setI {X : Cx} (hc : X.calm = true) : CallR X (.type "set") (rSetI X.K X.w) := by
  intro pins s σ H vs us Q I r h
  obtain ⟨l, ns, rfl, hq, small, q⟩ := h
  obtain ⟨its, rv, pl, hz⟩ := I.list hq
  rw [Vals.ref1 r]
  refine set_lst ns (I.ok.hd hc) pl.isList (by simpa using rv.ints) small fun hq' kq cq R lc old => ?_
  exact ⟨.ref _, upd H s.heap.objs.size (SetO X.w s.heap.objs.size (fun j => decide (j ∈ ns)) cq), I.laid (t' := kq) (fun b u e => old b u e) (Nat.le_refl _) (setO_new R), rfl, q _ cq lc (I.hok.fresh (Nat.le_refl _))⟩
section
variable {X : Cx} {S : Sig} {W : WX} {C : Cfg} {F : Fns}
theorem s_sset {p p2 q pos : Pos} {a : Expr} {c : E} (G : Gd X S W C F) (g1 : glB C.sc "sorted" = true) (g2 : glB C.sc "set" = true) (h : SE X S W F a c) :
    SE X S W F (.Call (.Name "sorted" p) [.Call (.Name "set" p2) [a] [] q] [] pos) (.sset c) := by
  have hp : PE X (.Call (.Name "sorted" p) [.Call (.Name "set" p2) [a] [] q] [] pos) (RE S W fun env => (ev F c env).bd fun x => .ofO (((asD x).bind ssetD).map .d)) := by
    have inner := pe_callTy (p := p2) (cr_setI G.calm) (gl_of G.hsc g2) (G.blt _ (by simp [bltNames])) (by decide +kernel) (pa_cons h.pe pa_nil (h.ns _ _)) (he := h.ns _ _) (pos := q)
    refine PE.weak (pe_callB (cr_sortedSet G.calm) (gl_of G.hsc g1) (G.blt _ (by simp [bltNames])) (by decide +kernel) (pa_cons inner pa_nil rfl)) fun σ H Q z => ?_
    obtain ⟨env, g, He, H0e, H0, R, z⟩ := z
    refine ⟨env, g, He, H0e, H0, R, Pst.bd z fun x g1 v H1 H1' a1 r1 z1 => ?_⟩
    have R1 := R.step a1
    cases e1 : asD x with
    | none => rw [e1] at z1; exact z1.elim
    | some d =>
      rw [e1] at z1
      have z1 : Pst S W σ H1 H1' (VR S) Q (M.ofO ((ssetD d).map .d) g1) := z1
      cases e2 : ssetD d with
      | none => rw [e2] at z1; exact z1.elim
      | some y =>
        rw [e2] at z1
        unfold ssetD at e2
        split at e2
        · rename_i ds
          cases e3 : ds.mapM intO with
          | none => rw [e3] at e2; cases e2
          | some ns =>
          rw [e3] at e2
          obtain ⟨small, rfl⟩ := ifO (show (if ns.length < 60 then some (PyData.list ((ssI ns).map .int)) else none) = some y from e2)
          obtain ⟨l, xs, rfl, k1, k2⟩ := r1.lst a1.sub e1
          have ex := ints_of_dr k2 e3
          subst ex
          refine ⟨l, ns, rfl, by rw [G.hK]; exact SqL.of k1, by unfold scanBound; omega, fun pS cS lc hn => ?_⟩
          have aG := Aft.grow (o := SetO X.w pS (fun j => decide (j ∈ ns)) cS) R1.sub R1.gen R1.tabs hn
          refine ⟨pS, _, cS, rfl, upd_same, by omega, fun out pL up mem len hn2 => ?_⟩
          have eo : out = ssI ns := up_one up ssI_up fun k => by rw [mem k, ssI_mem]; simp
          subst eo
          have aN := Aft.new (o := .lst ((ssI ns).map V.int)) aG.sub aG.gen aG.tabs hn2 (fun ps z => by cases z)
          exact z1 _ _ _ (aG.trans aN) (Dr.lst upd_same (dr_ints _))
        · cases e2
  refine ⟨RE.eq hp fun env => by simp only [ev], ?_, fun _ _ => rfl⟩
  refine ⟨fun pins s σ H Q I q => ?_⟩
  simp only [evT] at q
  obtain ⟨env, g, He, H0e, H0, R, q⟩ := q
  exact q.elim
end
end PD
set_option Elab.async false
set_option linter.all false
set_option maxRecDepth 100000
set_option maxHeartbeats 4000000
namespace PD
open PySem PySem.Spec L2 PyProof.Rows

/-! ### sorted: the one list in order -/
theorem tot_data : PySem.W.TotalLe (PySem.W.dataLe false (fun d : D => d)) := PySem.W.sortLe_total _ _ _
abbrev rk (c a : D) : Bool := PySem.W.sameRank (PySem.W.dataLe false fun d : D => d) c a
theorem insD_filter (c x : D) : ∀ l : List D, (insD x l).filter (rk c) = (x :: l).filter (rk c)
  | [] => rfl
  | y :: r => by
    unfold insD
    split
    · rename_i h
      have h1 : PySem.W.dataLe false (fun d : D => d) x y = false := by
        show (!PySem.W.dataLt y x) = false
        rw [h]; rfl
      have nb : ¬ (rk c x = true ∧ rk c y = true) := fun ⟨a, b⟩ => by
        unfold rk PySem.W.sameRank at a b
        rw [Bool.and_eq_true] at a b
        have := tot_data.trans _ _ _ a.2 b.1
        rw [h1] at this; cases this
      have ih := insD_filter c x r
      cases ex : rk c x <;> cases ey : rk c y <;> simp_all [List.filter_cons]
    · rfl
theorem isort_filter (c : D) : ∀ l : List D, (isortD l).filter (rk c) = l.filter (rk c)
  | [] => rfl
  | x :: l => by
    show (insD x (isortD l)).filter (rk c) = _
    rw [insD_filter, List.filter_cons, List.filter_cons, isort_filter c l]
theorem insD_mem {x y : D} : ∀ {l : List D}, y ∈ insD x l ↔ y = x ∨ y ∈ l
  | [] => by simp [insD]
  | z :: r => by
    unfold insD
    split
    · rw [List.mem_cons, List.mem_cons, insD_mem]
      exact ⟨fun h => by rcases h with h | h | h <;> simp [h], fun h => by rcases h with h | h | h <;> simp [h]⟩
    · simp
theorem isort_mem {y : D} : ∀ {l : List D}, y ∈ isortD l ↔ y ∈ l
  | [] => by simp [isortD]
  | x :: l => by
    show y ∈ insD x (isortD l) ↔ _
    rw [insD_mem, isort_mem, List.mem_cons]
theorem insD_up {x : D} : ∀ {l : List D}, l.Pairwise (fun a b => PySem.W.dataLe false (fun d : D => d) a b = true) → (insD x l).Pairwise (fun a b => PySem.W.dataLe false (fun d : D => d) a b = true)
  | [], _ => by simp [insD]
  | y :: r, h => by
    obtain ⟨h1, h2⟩ := List.pairwise_cons.mp h
    unfold insD
    split
    · rename_i hlt
      refine List.pairwise_cons.mpr ⟨fun a ha => ?_, insD_up h2⟩
      rcases insD_mem.mp ha with rfl | ha
      · rcases tot_data.total y a with q | q
        · exact q
        · have : PySem.W.dataLe false (fun d : D => d) a y = false := by
            show (!PySem.W.dataLt y a) = false
            rw [hlt]; rfl
          rw [this] at q; cases q
      · exact h1 a ha
    · rename_i hlt
      have hxy : PySem.W.dataLe false (fun d : D => d) x y = true := by
        show (!PySem.W.dataLt y x) = true
        simpa using hlt
      refine List.pairwise_cons.mpr ⟨fun a ha => ?_, h⟩
      rcases List.mem_cons.mp ha with rfl | ha
      · exact hxy
      · exact tot_data.trans _ _ _ hxy (h1 a ha)
theorem isort_up : ∀ l : List D, (isortD l).Pairwise (fun a b => PySem.W.dataLe false (fun d : D => d) a b = true)
  | [] => List.Pairwise.nil
  | x :: l => insD_up (isort_up l)
theorem isort_eq (l : List D) : isortD l = l.mergeSort (PySem.W.dataLe false fun d : D => d) := PySem.W.sort_unique tot_data (isort_up l) fun c => isort_filter c l
theorem insD_len (x : D) : ∀ l : List D, (insD x l).length = l.length + 1
  | [] => rfl
  | y :: r => by
    unfold insD
    split
    · simp [insD_len x r]
    · rfl
theorem isort_len : ∀ l : List D, (isortD l).length = l.length
  | [] => rfl
  | x :: l => by
    show (insD x (isortD l)).length = _
    rw [insD_len, isort_len l, List.length_cons]
inductive RAll (R : V → D → Prop) : List V → List D → Prop
  | nil : RAll R [] []
  | cons {v : V} {vs : List V} {d : D} {ds : List D} : R v d → RAll R vs ds → RAll R (v :: vs) (d :: ds)
theorem rall_of {K : KW} {H : Hp} : ∀ {vs : List V} {ds : List D}, DrAll K H vs ds → RAll (Dr K H) vs ds
  | _, _, .nil => .nil
  | _, _, .cons h hs => .cons h (rall_of hs)
theorem of_rall {K : KW} {H : Hp} : ∀ {vs : List V} {ds : List D}, RAll (Dr K H) vs ds → DrAll K H vs ds
  | _, _, .nil => .nil
  | _, _, .cons h hs => .cons h (of_rall hs)
theorem rall_len {R : V → D → Prop} : ∀ {vs : List V} {ds : List D}, RAll R vs ds → vs.length = ds.length
  | _, _, .nil => rfl
  | _, _, .cons _ hs => by simp [rall_len hs]
theorem each_vals {R : V → D → Prop} : ∀ {vs : List V} {us : List Value} {ds : List D}, Vals vs us → RAll R vs ds → PySem.W.EachIs (fun u d => ∃ x, RelV x u ∧ R x d) us ds
  | _, _, _, .nil, .nil => .nil
  | _, _, _, .cons r rs, .cons h hs => .cons ⟨_, r, h⟩ (each_vals rs hs)
theorem vals_each {R : V → D → Prop} : ∀ {us : List Value} {ds : List D}, PySem.W.EachIs (fun u d => ∃ x, RelV x u ∧ R x d) us ds → ∃ vs, Vals vs us ∧ RAll R vs ds
  | _, _, .nil => ⟨[], .nil, .nil⟩
  | _, _, .cons ⟨x, r, h⟩ hs => by
    obtain ⟨vs, r2, h2⟩ := vals_each hs
    exact ⟨x :: vs, .cons r r2, .cons h h2⟩
theorem srtOk_inv {ds : List D} (h : srtOk ds = true) : PySem.W.AllAlike ds ∧ PySem.W.Sortable ds ∧ ∀ d ∈ ds, d.depth ≤ 64 := by
  unfold srtOk at h
  simp only [Bool.and_eq_true, Bool.or_eq_true, List.all_eq_true, decide_eq_true_eq] at h
  obtain ⟨h1, h2, h3⟩ := h
  refine ⟨h1, ?_, h3⟩
  rcases h2 with h2 | h2
  · refine .inl fun d hd => ?_
    have := h2 d hd
    unfold tupNE at this
    split at this
    · exact ⟨_, _, rfl⟩
    · cases this
  · refine .inr fun d hd => ?_
    have := h2 d hd
    unfold notNT at this
    split at this
    · cases this
    · cases this
    · rename_i n1 n2
      exact ⟨n1, n2⟩
/-- sorted(xs): what is kept of the items is free -/
def rSrt (K : KW) : List V → Hp → VK → Prop := fun vs H Q => ∃ (l : Addr) (xs : List V) (ds : List D) (R0 : V → D → Prop), vs = [V.ref l] ∧ SqL K H l xs ∧ DrAll K H xs ds ∧ RAll R0 xs ds ∧ srtOk ds = true ∧
  ∀ p ys, RAll R0 ys (isortD ds) → H p = none → Q (.ref p) (upd H p (.lst ys))
theorem cr_sorted {X : Cx} (sys : ∃ o, X.base.get? sysModules = some o) (hu : X.A.units + 100 < cLine) : CallR X (.builtin "sorted") (rSrt (kx X)) := by
  intro pins s σ H vs us Q I r h
  obtain ⟨l, xs, ds, R0, rfl, hq, hd, hr, hok, q⟩ := h
  obtain ⟨its, rv, pl, hz⟩ := I.list hq
  obtain ⟨h1, h2, h3⟩ := srtOk_inv hok
  rw [Vals.ref1 r]
  obtain ⟨as, rd, _⟩ := DrAll.rds I sys hd rv
  have e2 : ds.map (fun d : D => d) = ds := by simp
  have hl : ds.length ≤ sizeLine := by rw [← hd.length]; exact hz
  refine PySem.W.sorted_data (vs := its) (bs := ds) (enc := fun d : D => d) (R := fun u d => ∃ x, RelV x u ∧ R0 x d) pl.isList (each_vals rv hr) (PySem.W.readsAll_each (fun d : D => d) (by rw [e2]; exact rd)) (by rw [e2]; exact h1) (by rw [e2]; exact h2) hl (fun b hb => ?_) fun out hlen hout => ?_
  · have := h3 b hb
    omega
  · rw [← isort_eq] at hout
    obtain ⟨ys, ry, hy⟩ := vals_each hout
    obtain ⟨n, hn⟩ := sortedAll_at s.heap its out.toArray
    refine ⟨.ref _, upd H (s.heap.objs.size + 1) (.lst ys), I.laid (t' := s.toks) (fun b o e => sortedAll_old e) (Nat.le_succ _) ⟨?_, out, n, ry, hn⟩, rfl, q _ _ hy (I.hok.fresh (Nat.le_succ _))⟩
    rw [rall_len hy, isort_len]
    exact hl
/-! ### dict(pairs) -/
def KD (K : KW) (H : Hp) : List (Key × V) → List (D × D) → Prop := Paired fun q e => e.1 = keyD q.1 ∧ Dr K H q.2 e.2
theorem KD.split {K : KW} {H : Hp} : ∀ {kvs : List (Key × V)} {kds : List (D × D)}, KD K H kvs kds → kds = (kvs.map fun q => keyD q.1).zip (kds.map (·.2)) ∧ DrAll K H (kvs.map (·.2)) (kds.map (·.2))
  | _, _, .nil => ⟨rfl, .nil⟩
  | q :: kvs, e :: kds, .cons h hs => by
    obtain ⟨h1, h2⟩ := KD.split hs
    refine ⟨?_, .cons h.2 h2⟩
    rw [List.map_cons, List.map_cons, List.zip_cons_cons, ← h1, ← h.1]
theorem KD.snoc {K : KW} {H : Hp} {k : Key} {v : V} {d : D} (h : Dr K H v d) : ∀ {kvs : List (Key × V)} {kds : List (D × D)}, KD K H kvs kds → KD K H (kvs ++ [(k, v)]) (kds ++ [(keyD k, d)])
  | _, _, .nil => .cons ⟨rfl, h⟩ .nil
  | _, _, .cons a b => .cons a (KD.snoc h b)
theorem KD.any {K : KW} {H : Hp} (k : Key) : ∀ {kvs : List (Key × V)} {kds : List (D × D)}, KD K H kvs kds → (kvs.any fun kv => decide (kv.1 = k)) = kds.any fun q => PyData.eqv q.1 (keyD k)
  | _, _, .nil => rfl
  | q :: kvs, e :: kds, .cons h hs => by rw [List.any_cons, List.any_cons, KD.any k hs, h.1, eqv_key]
theorem KD.repl {K : KW} {H : Hp} {k : Key} {v : V} {d : D} (h : Dr K H v d) : ∀ {kvs : List (Key × V)} {kds : List (D × D)}, KD K H kvs kds → KD K H (kvs.map fun kv => if kv.1 = k then (kv.1, v) else kv) (kds.map fun q => if PyData.eqv q.1 (keyD k) = true then (q.1, d) else q)
  | _, _, .nil => .nil
  | q :: kvs, e :: kds, .cons h1 hs => by
    rw [List.map_cons, List.map_cons]
    refine .cons ?_ (KD.repl h hs)
    by_cases c : q.1 = k
    · have c2 : PyData.eqv e.1 (keyD k) = true := by rw [h1.1, eqv_key, decide_eq_true c]
      rw [if_pos c, if_pos c2]
      exact ⟨h1.1, h⟩
    · have c2 : ¬ PyData.eqv e.1 (keyD k) = true := by rw [h1.1, eqv_key, decide_eq_false c]; simp
      rw [if_neg c, if_neg c2]
      exact h1
theorem KD.put {K : KW} {H : Hp} {k : Key} {v : V} {d : D} (h : Dr K H v d) {kvs : List (Key × V)} {kds : List (D × D)} (r : KD K H kvs kds) : KD K H (putK kvs k v) (dPut (keyD k) d kds) := by
  unfold putK dPut
  rw [r.any k]
  split
  · exact r.repl h
  · exact r.snoc h
theorem KD.merge {K : KW} {H : Hp} : ∀ {more : List (Key × V)} {mds : List (D × D)}, KD K H more mds → ∀ {kvs : List (Key × V)} {kds : List (D × D)}, KD K H kvs kds → KD K H (mergeK kvs more) (mergeD kds mds)
  | _, _, .nil, _, _, r => r
  | (k, v) :: more, (kd, d) :: mds, .cons h hs, kvs, kds, r => by
    obtain ⟨h1, h2⟩ := h
    have h1 : kd = keyD k := h1
    subst h1
    exact KD.merge hs (r.put h2)
theorem pairs_dr {K : KW} {H0 : Hp} : ∀ {xs : List V} {ps : List D} {kds : List (D × D)}, DrAll K H0 xs ps → ps.mapM pairK = some kds → ∃ (as : List Addr) (kvs : List (Key × V)), xs = as.map V.ref ∧ Paired (fun p kv => SqT K H0 p [kV kv.1, kv.2]) as kvs ∧ KD K H0 kvs kds
  | _, _, kds, .nil, e => by
    have e : some [] = some kds := by simpa using e
    cases e
    exact ⟨[], [], rfl, .nil, .nil⟩
  | x :: xs, p :: ps, kds, .cons r rs, e => by
    rw [List.mapM_cons] at e
    cases e1 : pairK p with
    | none => rw [e1] at e; cases e
    | some q =>
      cases e2 : ps.mapM pairK with
      | none => rw [e1, e2] at e; cases e
      | some kds' =>
        rw [e1, e2] at e
        have e3 : q :: kds' = kds := Option.some.inj e
        subst e3
        obtain ⟨as, kvs, rfl, h1, h2⟩ := pairs_dr rs e2
        unfold pairK at e1
        split at e1
        · rename_i k v
          obtain ⟨hk, rfl⟩ := ifO e1
          obtain ⟨kk, rfl⟩ := isKey_inv hk
          obtain ⟨a, ys, rfl, q1, q2⟩ := r.tup_inv
          cases q2 with
          | cons m1 q2 =>
            cases q2 with
            | cons m2 q2 =>
              cases q2
              have := dr_key m1
              subst this
              exact ⟨a :: as, (kk, _) :: kvs, rfl, .cons q1 h1, .cons ⟨rfl, m2⟩ h2⟩
        · cases e1
section
variable {X : Cx} {S : Sig} {W : WX} {C : Cfg} {F : Fns}
theorem paired_same {K : PySem.W.Frag} {H0 H : Hp} (s : Same H0 H) {as : List Addr} {kvs : List (Key × V)} (h : Paired (fun p kv => SqT K H0 p [kV kv.1, kv.2]) as kvs) : Paired (fun p kv => SqT K H p [kV kv.1, kv.2]) as kvs := by
  induction h with
  | nil => exact .nil
  | cons a _ ih => exact .cons (sqT_same s a) ih
end
end PD
set_option Elab.async false
set_option linter.all false
set_option maxRecDepth 100000
set_option maxHeartbeats 4000000
namespace PD
open PySem PySem.Spec L2 PyProof.Rows
mutual
theorem keyN_is {h : Heap} : ∀ {v : Value} {d : D} {as : List Addr} {k : NestedKey}, Reads h v d as → keyN d = some k → NestedIs h k v ∧ as = []
  | _, _, _, _, .none, e => by cases e; exact ⟨.none, rfl⟩
  | _, _, _, _, .bool b, e => by cases e; exact ⟨.bool rfl, rfl⟩
  | _, _, _, _, .int i t, e => by cases e; exact ⟨.int i t, rfl⟩
  | _, _, _, _, .str x t, e => by cases e; exact ⟨.text x t, rfl⟩
  | _, _, _, _, .list _ _ _ _, e => by cases e
  | _, _, _, _, .dict _ _ _ _ _, e => by cases e
  | _, _, _, _, .tuple (xs := xs) ho hc hd ha, e => by
    simp only [keyN] at e
    cases q : keysN xs with
    | none => rw [q] at e; cases e
    | some ks =>
      rw [q] at e
      cases e
      obtain ⟨h1, h2⟩ := keysN_is ha q
      exact ⟨.tup ho hc hd h1, h2⟩
theorem keysN_is {h : Heap} : ∀ {vs : List Value} {ds : List D} {as : List Addr} {ks : List NestedKey}, ReadsAll h vs ds as → keysN ds = some ks → NestedAll h ks vs ∧ as = []
  | _, _, _, _, .nil, e => by cases e; exact ⟨.nil, rfl⟩
  | _, _, _, _, .cons (d := d) (ds := ds) h t, e => by
    simp only [keysN] at e
    cases q : keyN d with
    | none => rw [q] at e; cases e
    | some k =>
      rw [q] at e
      cases q2 : keysN ds with
      | none => rw [q2] at e; cases e
      | some ks =>
        rw [q2] at e
        cases e
        obtain ⟨h1, h2⟩ := keyN_is h q
        obtain ⟨h3, h4⟩ := keysN_is t q2
        exact ⟨.cons h1 h3, by rw [h2, h4]; rfl⟩
end
theorem tkey_inv {d : D} {k : NestedKey} (h : tkey d = some k) : (∃ ds, d = .tuple ds) ∧ keyN d = some k ∧ k.depth ≤ 8 := by
  unfold tkey at h
  split at h
  · rename_i ds
    cases q : keyN (.tuple ds) with
    | none => rw [q] at h; cases h
    | some k' =>
      rw [q] at h
      have h : (if k'.depth ≤ 8 then some k' else none) = some k := h
      split at h
      · cases h; exact ⟨⟨ds, rfl⟩, rfl, by assumption⟩
      · cases h
  · cases h
theorem SetN0.mut {w : World} {a : Addr} {L : List (Addr × NestedKey)} : Mut (some (SetN w a L)) := trivial
theorem setN_ok {P : Program} {w : World} {H : Hp} {h : Heap} {a : Addr} {L : List (Addr × NestedKey)} (z : SetN0 w a L h) : ObjOk P w H h a (SetN w a L) := by
  refine ⟨z, ?_, ?_⟩
  · obtain ⟨es, ep, t, ⟨o, ho, _⟩, _⟩ := z
    exact ⟨o, ho⟩
  · rintro h1 h2 ⟨es, ep, t, ⟨o, ho, hr⟩, r⟩ st
    exact ⟨es, ep, t, ⟨o, st o ho, hr⟩, r⟩
theorem SetN0.up {w : World} {h : Heap} {a : Addr} {L : List (Addr × NestedKey)} (z : SetN0 w a L h) (tup : ∀ p ∈ L, IsN h p.2 p.1) : ∃ es ep t, SetNR w h a L es ep t := by
  obtain ⟨es, ep, t, ob, rw_, tb, nd, ld, rm, fw⟩ := z
  exact ⟨es, ep, t, ob, rw_, tb, nd, tup, ld, rm, fw⟩
theorem SetNR.z {w : World} {h : Heap} {a : Addr} {L : List (Addr × NestedKey)} {es : Array (Int × Value)} {ep : Nat} {t : SetTable} (R : SetNR w h a L es ep t) : SetN0 w a L h := ⟨es, ep, t, R.ob, R.rows, R.tab, R.nd, R.led, R.room, R.few⟩
def rSet0N (w : World) : List V → Hp → VK → Prop := fun xs H Q => xs = [] ∧ ∀ p, H p = none → Q (.ref p) (upd H p (SetN w p []))
theorem cr_set0N {X : Cx} : CallR X (.type "set") (rSet0N X.w) := by
  rintro pins s σ H xs us Q I r ⟨rfl, q⟩
  cases r
  refine setR_new fun _ => ⟨.ref _, upd H _ (SetN X.w _ []), I.laid (t' := s.toks) (fun b u e => Heap.get?_push_of_some _ e) (Nat.le_refl _) (setN_ok (setNR_new (Heap.get?_push_size s.heap rfl)).z), rfl, q _ (I.hok.fresh (Nat.le_refl _))⟩
theorem OkL.isN {X : Cx} {pins : List (Addr × Obj)} {σ : L2.St} {H : Hp} {s : Shared} (I : L2.Inv X pins σ H s) (sys : ∃ o, X.base.get? sysModules = some o) {ps : List AD} (h : OkL (kx X) H ps) : ∀ p ∈ ps, IsN s.heap (kOf p.2) p.1 ∧ Reads s.heap (.ref p.1) p.2 [] := fun p hp => by
  obtain ⟨h1, h2⟩ := h p hp
  obtain ⟨k, hk⟩ := Option.isSome_iff_exists.mp h1
  obtain ⟨_, k1, k2⟩ := tkey_inv hk
  obtain ⟨as, rd, _⟩ := Dr.rds I sys h2 rfl
  obtain ⟨n1, rfl⟩ := keyN_is rd k1
  unfold kOf
  rw [hk]
  exact ⟨⟨n1, k2⟩, rd⟩
def rSAddN (K : KW) (w : World) : V → List V → Hp → VK → Prop := fun x xs H Q => ∃ (a : Addr) (ps : List AD) (b : AD), x = .ref a ∧ xs = [.ref b.1] ∧ H a = some (SetN w a (kL ps)) ∧ OkL K H (b :: ps) ∧ ps.length + 1 < 64 ∧
  ((kOf b.2 ∈ (kL ps).map (·.2) → Q .non (upd H a (SetN w a (kL ps)))) ∧ (kOf b.2 ∉ (kL ps).map (·.2) → ∀ ps' : List AD, ps'.Perm (b :: ps) → Q .non (upd H a (SetN w a (kL ps')))))
theorem perm_unmap {α β : Type} {f : α → β} {L M : List β} (h : L.Perm M) : ∀ ps : List α, M = ps.map f → ∃ ps' : List α, ps'.Perm ps ∧ L = ps'.map f := by
  induction h with
  | nil => exact fun ps e => ⟨ps, .refl _, e⟩
  | cons x _ ih =>
    intro ps e
    cases ps with
    | nil => cases e
    | cons p qs =>
      rw [List.map_cons] at e
      injection e with e1 e2
      obtain ⟨ps', h1, h2⟩ := ih qs e2
      exact ⟨p :: ps', h1.cons p, by rw [List.map_cons, h2, e1]⟩
  | swap x y l =>
    intro ps e
    match ps, e with
    | p :: q :: qs, e =>
      rw [List.map_cons, List.map_cons] at e
      injection e with e1 e
      injection e with e2 e3
      exact ⟨q :: p :: qs, .swap _ _ _, by rw [List.map_cons, List.map_cons, e1, e2, e3]⟩
  | trans _ _ ih1 ih2 =>
    intro ps e
    obtain ⟨p2, h1, h2⟩ := ih2 ps e
    obtain ⟨p1, h3, h4⟩ := ih1 p2 h2
    exact ⟨p1, h3.trans h1, h4⟩
theorem mt_saddN {X : Cx} (sys : ∃ o, X.base.get? sysModules = some o) (hu : X.A.units + 100 < cLine) : MtR X "set.add" (rSAddN (kx X) X.w) := by
  rintro pins s σ H x xs v us Q I rx rxs ⟨a, ps, b, rfl, rfl, ha, ok, few, q1, q2⟩
  cases rx
  cases rxs with
  | cons ry rt =>
  cases ry
  cases rt
  have kn := ok.isN I sys
  have z : SetN0 X.w a (kL ps) s.heap := (I.hok a _ ha).1
  obtain ⟨es, ep, t, R⟩ := z.up fun p hp => by
    obtain ⟨p', hp', rfl⟩ := List.mem_map.mp hp
    exact (kn p' (List.mem_cons_of_mem _ hp')).1
  have kb := (kn b List.mem_cons_self).1
  have hT : s.TypeIs (.ref a) "set" := by
    obtain ⟨o, ho, hex, _⟩ := R.ob
    exact ⟨o, ho, hex.1⟩
  have u1 : X.A.in1.units = X.A.units + 1 := rfl
  refine wpAny_call_entry F.slot_set_add hT F.entry_set_add ?_ (F.args_set_add_2 _ _)
  have fin : ∀ (h' : Heap) (L' : List (Addr × NestedKey)) (es' : Array (Int × Value)) (ep' : Nat) (t' : SetTable) (tk : Nat), Heap.SameBut a s.heap h' → SetNR X.w h' a L' es' ep' t' → Q .non (upd H a (SetN X.w a L')) →
      EP X pins σ Q .none { s with heap := h', toks := tk } := fun h' L' es' ep' t' tk sb R' q => by
    refine ⟨.non, upd H a (SetN X.w a L'), I.write (by rw [ha]; trivial) (.inl rfl) (fun b u hb hu => (sb.2 b hb).trans hu) ?_ (setN_ok R'.z), rfl, q⟩
    obtain ⟨o, ho, _⟩ := R'.ob
    exact ⟨o, ho⟩
  show wpAny (model X.prog X.w) X.A.in1 (do
    let a' ← Builtin.Frozenset.addrOf (Value.ref a)
    let _ ← setAdd a' (.ref b.1)
    ret Value.none) _ _ _
  refine wpAny_bind (wpAny_pure ?_)
  refine wpAny_bind ?_
  unfold setAdd
  refine wpAny_holding ?_
  refine wpAny_bind (pyHash_key (kOf b.2) (.ref b.1) X.A.in1 s _ kb.1 (by have := kb.2; omega) ?_)
  refine addN (s := { s with toks := s.toks + (kOf b.2).draws }) R kb (by omega) (by simpa using few) fun bb h' L' es' ep' t' sb R' h1 h2 => ?_
  refine wpAny_pure ⟨.none, rfl, fin h' L' es' ep' t' _ sb R' ?_⟩
  by_cases m : kOf b.2 ∈ (kL ps).map (·.2)
  · rw [h1 m]
    exact q1 m
  · obtain ⟨ps', p1, rfl⟩ := perm_unmap (f := fun p : AD => (p.1, kOf p.2)) (h2 m) (b :: ps) rfl
    exact q2 m ps' p1
/-! ### sorted: a set of tuples -/
theorem le_eqv {x y : D} (al : PySem.W.alike x y = true) (h1 : PySem.W.dataLe false (fun d : D => d) x y = true) (h2 : PySem.W.dataLe false (fun d : D => d) y x = true) : PyData.eqv x y = true := by
  have a1 : lexLt itemOrd (PySem.W.keyToks y) (PySem.W.keyToks x) = false := by
    have : (!lexLt itemOrd (PySem.W.keyToks y) (PySem.W.keyToks x)) = true := h1
    simpa using this
  have a2 : lexLt itemOrd (PySem.W.keyToks x) (PySem.W.keyToks y) = false := by
    have : (!lexLt itemOrd (PySem.W.keyToks x) (PySem.W.keyToks y)) = true := h2
    simpa using this
  cases e : PyData.eqv x y with
  | true => rfl
  | false =>
    exfalso
    have t := (PySem.W.toks_eqv x y al).2 e [] [.inl 0]
    have q : PySem.W.keyToks x = PySem.W.keyToks y := (listOrd itemOrd).total _ _ a2 a1
    rw [q, PySem.W.lex_pre] at t
    rw [q] at a2
    rw [a2] at t
    cases t
theorem perm_few {α : Type} {l m : List α} (h : l.Perm m) (n : m.length ≤ 1) : l = m := by
  match m, n with
  | [], _ => exact h.eq_nil
  | [x], _ => exact List.perm_singleton.mp h
  | _ :: _ :: _, n => simp at n
theorem isort_perm {l m : List D} (al : ∀ x ∈ l, ∀ y ∈ l, PySem.W.alike x y = true) (di : l.Pairwise fun x y => PyData.eqv x y = false) (p : m.Perm l) : isortD m = isortD l := by
  rw [isort_eq l]
  refine PySem.W.sort_unique tot_data (isort_up m) fun c => ?_
  show (isortD m).filter (rk c) = l.filter (rk c)
  rw [isort_filter]
  refine perm_few (p.filter _) ?_
  have dl := di.filter (rk c)
  have am : ∀ x ∈ l.filter (rk c), x ∈ l ∧ rk c x = true := fun x hx => List.mem_filter.mp hx
  generalize l.filter (rk c) = f at *
  match f, dl, am with
  | [], _, _ => simp
  | [x], _, _ => simp
  | x :: y :: r, dl, am =>
    exfalso
    obtain ⟨mx, rx⟩ := am x (by simp)
    obtain ⟨my, ry⟩ := am y (by simp)
    unfold rk PySem.W.sameRank at rx ry
    rw [Bool.and_eq_true] at rx ry
    have := le_eqv (al x mx y my) (tot_data.trans _ _ _ rx.2 ry.1) (tot_data.trans _ _ _ ry.2 rx.1)
    rw [(List.pairwise_cons.mp dl).1 y (by simp)] at this
    cases this
/-- sorted(s) of a set of tuples: a new list of them, in order -/
def rSortN (K : KW) (w : World) : List V → Hp → VK → Prop := fun vs H Q => ∃ (a : Addr) (ps : List AD), vs = [.ref a] ∧ H a = some (SetN w a (kL ps)) ∧ OkL K H ps ∧ srtOk (ps.map (·.2)) = true ∧
  ∀ (p : Addr) (ys : List V), ((ps.map (·.2)).Pairwise fun x y => PyData.eqv x y = false) → (∀ (K' : KW) (H' : Hp), OkL K' H' ps → DrAll K' H' ys (isortD (ps.map (·.2)))) → H p = none → Q (.ref p) (upd H p (.lst ys))
theorem each_ad {h : Heap} : ∀ (ps : List AD), (∀ p ∈ ps, Reads h (.ref p.1) p.2 []) → ∀ (a : Addr), PySem.W.EachIs (fun v (b : AD) => ∃ as, Reads h v b.2 as ∧ ¬ a ∈ as) (ps.map fun p => Value.ref p.1) ps
  | [], _, _ => .nil
  | p :: ps, h, a => .cons ⟨[], h p (by simp), by simp⟩ (each_ad ps (fun q hq => h q (by simp [hq])) a)
theorem each_self : ∀ (ps : List AD), PySem.W.EachIs (fun v (b : AD) => v = Value.ref b.1) (ps.map fun p => Value.ref p.1) ps
  | [] => .nil
  | p :: ps => .cons rfl (each_self ps)
theorem each_self_inv : ∀ {vs : List Value} {ps : List AD}, PySem.W.EachIs (fun v (b : AD) => v = Value.ref b.1) vs ps → vs = ps.map fun p => Value.ref p.1
  | _, _, .nil => rfl
  | _, _, .cons e t => by rw [List.map_cons, e, each_self_inv t]
theorem dr_refs {K : KW} {H : Hp} : ∀ (ps : List AD), OkL K H ps → DrAll K H (ps.map fun p => V.ref p.1) (ps.map (·.2))
  | [], _ => .nil
  | p :: ps, h => .cons (h p (by simp)).2 (dr_refs ps fun q hq => h q (by simp [hq]))
theorem vals_refs : ∀ ps : List AD, Vals (ps.map fun p => V.ref p.1) (ps.map fun p => Value.ref p.1)
  | [] => .nil
  | p :: ps => .cons rfl (vals_refs ps)
mutual
theorem eqv_keyN : ∀ (x y : D) {kx ky : NestedKey}, keyN x = some kx → keyN y = some ky → (PyData.eqv x y = true ↔ kx = ky)
  | .tuple xs, .tuple ys, kx, ky, hx, hy => by
    simp only [keyN, Option.map_eq_some_iff] at hx hy
    obtain ⟨a, ha, rfl⟩ := hx
    obtain ⟨b, hb, rfl⟩ := hy
    simp only [PyData.eqv]
    rw [eqv_keysN xs ys ha hb]
    simp
  | .none, y, kx, ky, hx, hy => by
    cases y <;> simp_all [keyN, PyData.eqv] <;> (try (obtain ⟨a, _, rfl⟩ := hy)) <;> subst_vars <;> simp
  | .bool b, y, kx, ky, hx, hy => by
    cases y <;> simp_all [keyN, PyData.eqv] <;> (try (obtain ⟨a, _, rfl⟩ := hy)) <;> subst_vars <;> (try cases b) <;> simp <;> (try (rename_i c; cases c <;> simp))
  | .int i, y, kx, ky, hx, hy => by
    cases y <;> simp_all [keyN, PyData.eqv] <;> (try (obtain ⟨a, _, rfl⟩ := hy)) <;> subst_vars <;> simp
  | .str z, y, kx, ky, hx, hy => by
    cases y <;> simp_all [keyN, PyData.eqv] <;> (try (obtain ⟨a, _, rfl⟩ := hy)) <;> subst_vars <;> simp
  | .list xs, y, kx, ky, hx, hy => by simp [keyN] at hx
  | .dict kvs, y, kx, ky, hx, hy => by simp [keyN] at hx
  | .tuple xs, .none, kx, ky, hx, hy => by
    simp only [keyN, Option.map_eq_some_iff] at hx hy
    obtain ⟨a, ha, rfl⟩ := hx
    simp_all [PyData.eqv]
    subst_vars
    simp
  | .tuple xs, .bool _, kx, ky, hx, hy => by
    simp only [keyN, Option.map_eq_some_iff] at hx hy
    obtain ⟨a, ha, rfl⟩ := hx
    simp_all [PyData.eqv]
    subst_vars
    simp
  | .tuple xs, .int _, kx, ky, hx, hy => by
    simp only [keyN, Option.map_eq_some_iff] at hx hy
    obtain ⟨a, ha, rfl⟩ := hx
    simp_all [PyData.eqv]
    subst_vars
    simp
  | .tuple xs, .str _, kx, ky, hx, hy => by
    simp only [keyN, Option.map_eq_some_iff] at hx hy
    obtain ⟨a, ha, rfl⟩ := hx
    simp_all [PyData.eqv]
    subst_vars
    simp
  | .tuple xs, .list _, kx, ky, hx, hy => by simp [keyN] at hy
  | .tuple xs, .dict _, kx, ky, hx, hy => by simp [keyN] at hy
theorem eqv_keysN : ∀ (xs ys : List D) {kx ky : List NestedKey}, keysN xs = some kx → keysN ys = some ky → (PyData.eqvAll xs ys = true ↔ kx = ky)
  | [], [], kx, ky, hx, hy => by cases hx; cases hy; simp [PyData.eqvAll]
  | [], y :: ys, kx, ky, hx, hy => by
    cases hx
    simp only [keysN, Option.bind_eq_some_iff, Option.map_eq_some_iff] at hy
    obtain ⟨a, _, b, _, rfl⟩ := hy
    simp [PyData.eqvAll]
  | x :: xs, [], kx, ky, hx, hy => by
    cases hy
    simp only [keysN, Option.bind_eq_some_iff, Option.map_eq_some_iff] at hx
    obtain ⟨a, _, b, _, rfl⟩ := hx
    simp [PyData.eqvAll]
  | x :: xs, y :: ys, kx, ky, hx, hy => by
    simp only [keysN, Option.bind_eq_some_iff, Option.map_eq_some_iff] at hx hy
    obtain ⟨a, ha, b, hb, rfl⟩ := hx
    obtain ⟨a', ha', b', hb', rfl⟩ := hy
    simp only [PyData.eqvAll, Bool.and_eq_true]
    rw [eqv_keyN x y ha ha', eqv_keysN xs ys hb hb']
    simp
end
theorem kOf_eqv {x y : D} (hx : (tkey x).isSome = true) (hy : (tkey y).isSome = true) : PyData.eqv x y = true ↔ kOf x = kOf y := by
  obtain ⟨a, ha⟩ := Option.isSome_iff_exists.mp hx
  obtain ⟨b, hb⟩ := Option.isSome_iff_exists.mp hy
  unfold kOf
  rw [ha, hb]
  exact eqv_keyN x y (tkey_inv ha).2.1 (tkey_inv hb).2.1
theorem nodup_eqv {ps : List AD} (ok : ∀ p ∈ ps, (tkey p.2).isSome = true) (nd : ((kL ps).map (·.2)).Nodup) : (ps.map (·.2)).Pairwise fun x y => PyData.eqv x y = false := by
  unfold kL at nd
  rw [List.map_map] at nd
  unfold List.Nodup at nd
  rw [List.pairwise_map] at nd ⊢
  refine List.Pairwise.imp_of_mem (fun {a b} ha hb h => ?_) nd
  cases e : PyData.eqv a.2 b.2 with
  | false => rfl
  | true => exact absurd ((kOf_eqv (ok a ha) (ok b hb)).mp e) h
theorem cr_sortedN {X : Cx} (hc : X.calm = true) (sys : ∃ o, X.base.get? sysModules = some o) (hu : X.A.units + 100 < cLine) : CallR X (.builtin "sorted") (rSortN (kx X) X.w) := by
  rintro pins s σ H vs us Q I r ⟨a, ps, rfl, ha, ok, so, q⟩
  rw [Vals.ref1 r]
  have kn := ok.isN I sys
  have z : SetN0 X.w a (kL ps) s.heap := (I.hok a _ ha).1
  obtain ⟨es, ep, t, R⟩ := z.up fun p hp => by
    obtain ⟨p', hp', rfl⟩ := List.mem_map.mp hp
    exact (kn p' hp').1
  obtain ⟨o, ho, hex, hd⟩ := R.ob
  have u1 : X.A.in1.units = X.A.units + 1 := rfl
  have hh : X.A.in1.handled = none := I.ok.hd hc
  have few := R.few
  have sz := R.size
  have sb : (64 : Nat) ≤ scanBound := by decide
  obtain ⟨h1, h2', h3⟩ := srtOk_inv so
  refine Calls.call_function_entry kind_sorted plain_sorted entry_sorted (args_sorted1 _) ?_
  refine wpAny_bind (wpAny_pure ?_)
  refine wpAny_bind (collect_set hh ⟨o, ho, hex.1, hd⟩ R.fits (by omega) R.tab.ris R.led fun s1 vs k1 hz g1 o1 pm => ?_)
  have pm : vs.Perm (ps.map fun p => Value.ref p.1) := by
    rw [R.rows] at pm
    simpa [List.map_map, Function.comp_def, kL, rowsN] using pm
  obtain ⟨qs, p1, rfl⟩ := perm_unmap pm ps rfl
  have ql : qs.length = ps.length := p1.length_eq
  have pl : ps.length < 64 := by simpa using few
  refine wpAny_bind (wpAny_newList ?_ (by rw [List.length_map, sizeLine_eq]; omega))
  have hoL : (s1.heap.push { cls := .type "list", data := .seq (qs.map fun p => Value.ref p.1).toArray }).get? s1.heap.objs.size = some (seqObj "list" (qs.map fun p => Value.ref p.1).toArray 0) := Heap.get?_push_size s1.heap rfl
  have old : ∀ (b : Addr) (u : Obj), s.heap.get? b = some u → b < s1.heap.objs.size ∧ (s1.heap.push { cls := .type "list", data := .seq (qs.map fun p => Value.ref p.1).toArray }).get? b = some u := fun b u e => ⟨Heap.lt_size (k1 b u e), Heap.get?_push_of_some _ (k1 b u e)⟩
  have sz2 : (s1.heap.push { cls := .type "list", data := .seq (qs.map fun p => Value.ref p.1).toArray }).objs.size = s1.heap.objs.size + 1 := size_push' _ _
  generalize s1.heap.push { cls := .type "list", data := .seq (qs.map fun p => Value.ref p.1).toArray } = h2 at hoL old sz2 ⊢
  have mem : ∀ p ∈ qs, p ∈ ps := fun p hp => p1.mem_iff.mp hp
  have memD : ∀ p ∈ qs, p.2 ∈ ps.map (·.2) := fun p hp => List.mem_map.mpr ⟨p, mem p hp, rfl⟩
  have fresh : s.heap.get? s1.heap.objs.size = none := by
    cases e : s.heap.get? s1.heap.objs.size with
    | none => rfl
    | some u => exact absurd (old _ u e).1 (Nat.lt_irrefl _)
  have free := I.hok.fresh hz
  generalize s1.heap.objs.size = l at *
  have rd : ∀ p ∈ qs, Reads h2 (.ref p.1) p.2 [] := fun p hp =>
    PySem.W.Reads.keepBut (a := l) (fun b u _ e => (old b u e).2) (fun u e => by rw [fresh] at e; cases e) p.2 _ [] (h1 _ (memD p hp) _ (memD p hp)) (kn p (mem p hp)).2 (by simp)
  have inQ : ∀ d ∈ qs.map (fun b : AD => b.2), d ∈ ps.map (·.2) := fun d hd => by
    obtain ⟨p, hp, rfl⟩ := List.mem_map.mp hd
    exact memD p hp
  refine wpAny_bind (wpAny_holding (PySem.W.list_sort_data (bs := qs) (enc := fun b : AD => b.2) (R := fun v b => v = Value.ref b.1) hoL (each_self qs) (each_ad qs rd _) (fun d hd d' hd' => h1 d (inQ d hd) d' (inQ d' hd')) ?_ (by rw [sizeLine_eq]; omega) (fun b hb => ?_) fun out hlen hout => ?_))
  · rcases h2' with h2' | h2'
    · exact .inl fun d hd => h2' d (inQ d hd)
    · exact .inr fun d hd => h2' d (inQ d hd)
  · have := h3 b.2 (memD b hb)
    omega
  · obtain ⟨c, hcc⟩ := sortedHeap_at (out := out.toArray) hoL
    have e1 := each_self_inv hout
    have e2 : (qs.mergeSort (PySem.W.dataLe false fun b : AD => b.2)).map (·.2) = isortD (ps.map (·.2)) := by
      have mm := List.map_mergeSort (r := PySem.W.dataLe false fun b : AD => b.2) (s := PySem.W.dataLe false fun d : D => d) (f := fun b : AD => b.2) (l := qs) (fun a _ b _ => rfl)
      refine mm.trans ?_
      rw [← isort_eq]
      refine isort_perm (fun x hx y hy => h1 x hx y hy) (nodup_eqv (fun p hp => (ok p hp).1) R.nd) (p1.map _)
    have okS : ∀ p ∈ qs.mergeSort (PySem.W.dataLe false fun b : AD => b.2), p ∈ ps := fun p hp => mem p (List.mem_mergeSort.mp hp)
    have lS : (qs.mergeSort (PySem.W.dataLe false fun b : AD => b.2)).length = qs.length := List.length_mergeSort _
    generalize qs.mergeSort (PySem.W.dataLe false fun b : AD => b.2) = rs at *
    have dS : ∀ (K' : KW) (H' : Hp), OkL K' H' ps → DrAll K' H' (rs.map fun p => V.ref p.1) (isortD (ps.map (·.2))) := fun K' H' ok' => by
      have := dr_refs rs fun p hp => ok' p (okS p hp)
      rwa [e2] at this
    have old2 : ∀ (b : Addr) (u : Obj), s.heap.get? b = some u → (sortedHeap h2 l (qs.map fun p => Value.ref p.1) out.toArray).get? b = some u := fun b u e => by
      obtain ⟨l1, l2⟩ := old b u e
      rw [sortedHeap_old (Nat.ne_of_lt l1) (by rw [sz2]; exact Nat.lt_succ_of_lt l1)]
      exact l2
    generalize sortedHeap h2 l (qs.map fun p => Value.ref p.1) out.toArray = h3' at *
    subst e1
    refine wpAny_pure ⟨.ref _, rfl, .ref l, upd H l (.lst (rs.map fun p => V.ref p.1)), ?_, rfl, q _ _ (nodup_eqv (fun p hp => (ok p hp).1) R.nd) dS free⟩
    have ob : ObjOk X.prog X.w (upd H l (.lst (rs.map fun p => V.ref p.1))) h3' l (.lst (rs.map fun p => V.ref p.1)) := ⟨by rw [List.length_map, sizeLine_eq]; omega, _, c, vals_refs rs, hcc⟩
    have J := I.laid (t' := s1.toks) old2 hz ob
    exact ⟨J.ok, o1.trans I.os, by rw [g1]; exact I.bare, J.base, J.loc, J.cell, J.free, J.freeC, J.pin, J.hok, J.len⟩
/-- s.add(t) -/
def tSAddN (K : KW) (w : World) (to : TE) (t : TA) : TE := fun σ H Q => to σ H fun x H1 => (∃ a L, x = V.ref a ∧ H1 a = some (SetN w a L)) ∧ t σ H1 fun xs H2 => rSAddN K w x xs H2 Q
theorem pe_saddN {X : Cx} (sys : ∃ o, X.base.get? sysModules = some o) (hu : X.A.units + 100 < cLine) {o e : Expr} {to : TE} {t : TA} {apos cpos : Pos} (ho : PE X o to) (ha : PA X [e] t) (hbase : attributeBase o "add" X.env (eval o X.env) = eval o X.env)
    (hfew : (((backTo cpos (starEach [e] X.env)).all fun x => !x.1) && (backToKw cpos (keywordEach [] X.env)).all (fun x => x.1.isSome) && decide (([e] : List Expr).length + ([] : List Keyword).length + (if ([] : List Keyword).isEmpty = true then 0 else 1) < 30)) = true)
    (hline : (apos.endLine == cpos.line) = true) (hs : starEach [e] X.env = (false, eval e X.env) :: starEach [] X.env) : PE X (.Call (.Attribute o "add" apos) [e] [] cpos) (tSAddN (kx X) X.w to t) := ⟨fun pins s σ H Q I h => by
  refine wpAny_Call_method_late hbase hfew hline rfl (thn (ho.run pins s σ H _ I h) fun v s1 ⟨x, H1, I1, r1, ⟨a, L, ex, hka⟩, q1⟩ => ?_)
  subst ex
  cases r1
  obtain ⟨es, ep, tb, ⟨ob, hob, hex, hd⟩, _⟩ : SetN0 X.w a L s1.heap := (I1.hok a _ hka).1
  refine ⟨"set", "set.add", F.plainAttrs_set, F.slot_set_add, F.type_set_add, ⟨ob, hob, hex.1⟩, fun b e => ?_, ?_⟩
  · cases e
    exact ⟨ob, hob, hex.2.1⟩
  · have hA := ha.run cpos pins s1 σ H1 _ I1 q1
    rw [hs] at hA ⊢
    refine Calls.callWith_builtin (by rfl) (Calls.evalArgs_plain (thn hA fun us s2 ⟨vs, H2, I2, r2, q2⟩ => ?_))
    exact mt_saddN sys hu pins s2 σ H2 (.ref a) vs (.ref a) us Q I2 rfl r2 q2⟩
end PD
set_option Elab.async false
set_option linter.all false
set_option maxRecDepth 100000
set_option maxHeartbeats 4000000
namespace PD
open PySem PySem.Spec L2 PyProof.Rows
/-! ### dicts whose keys are tuples -/
theorem dctN_ok {P : Program} {w : World} {H : Hp} {h : Heap} {a : Addr} {ps : List DE} (z : DctN0 w a ps h) : ObjOk P w H h a (DctN w a ps) := by
  refine ⟨z, ?_, ?_⟩
  · obtain ⟨xs, _, _, _, ⟨o, _, _, ho, _⟩, _⟩ := z
    exact ⟨o, ho⟩
  · rintro h1 h2 ⟨xs, r, ns, sz, ⟨o, es, ep, ho, hr⟩, nd⟩ st
    exact ⟨xs, r, ns, sz, ⟨o, es, ep, st o ho, hr⟩, nd⟩
theorem DctN0.up {P : Program} {w : World} {h : Heap} {a : Addr} {ps : List DE} (z : DctN0 w a ps h) (tup : ∀ p ∈ ps, IsN h (kOf p.1.2) p.1.1) : ∃ xs, Paired EntR ps xs ∧ (a == sysModules) = false ∧ xs.length ≤ sizeLine ∧ Heap.DictOfH (nestedKind P w) h a xs := by
  obtain ⟨xs, r, ns, sz, ⟨o, es, ep, ho, hx, hd, he⟩, nd⟩ := z
  refine ⟨xs, r, ns, sz, o, es, ep, ho, hx, hd, he, ?_, nd⟩
  clear he nd sz
  induction r with
  | nil => intro x hx; cases hx
  | cons e t ih =>
    intro x hx
    rcases List.mem_cons.mp hx with rfl | hx
    · have := tup _ List.mem_cons_self
      obtain ⟨e1, e2, _⟩ := e
      rw [e1, e2]
      exact this
    · exact ih (fun p hp => tup p (List.mem_cons_of_mem _ hp)) x hx
theorem DctN0.down {P : Program} {w : World} {h : Heap} {a : Addr} {ps : List DE} {xs : List (NestedKey × Addr × Value)} (r : Paired EntR ps xs) (ns : (a == sysModules) = false) (sz : xs.length ≤ sizeLine) (d : Heap.DictOfH (nestedKind P w) h a xs) : DctN0 w a ps h := by
  obtain ⟨o, es, ep, ho, hx, hd, he, _, nd⟩ := d
  exact ⟨xs, r, ns, sz, ⟨o, es, ep, ho, hx, hd, he⟩, nd⟩
/-- d[k] = v, as told by the entries -/
def putE (ps : List DE) (b : AD) (v : V) : List DE := if (ps.any fun p => decide (kOf p.1.2 = kOf b.2)) = true then ps.map fun p => if kOf p.1.2 = kOf b.2 then (p.1, v) else p else ps ++ [(b, v)]
def getE (ps : List DE) (b : AD) : Option V := (ps.find? fun p => decide (kOf p.1.2 = kOf b.2)).map (·.2)
theorem ent_any {k : NestedKey} : ∀ {ps : List DE} {xs : List (NestedKey × Addr × Value)}, Paired EntR ps xs → (atKey xs k).isSome = ps.any fun p => decide (kOf p.1.2 = k)
  | _, _, .nil => rfl
  | p :: ps, x :: xs, .cons e t => by
    have ih := ent_any (k := k) t
    unfold atKey at ih ⊢
    rw [List.find?_cons, List.any_cons, e.1]
    by_cases c : kOf p.1.2 = k
    · simp [c]
    · simp only [c, decide_false, Bool.false_or]
      exact ih
theorem ent_get {k : NestedKey} : ∀ {ps : List DE} {xs : List (NestedKey × Addr × Value)}, Paired EntR ps xs → ∀ {v : V}, (ps.find? fun p => decide (kOf p.1.2 = k)).map (·.2) = some v → ∃ q, atKey xs k = some q ∧ RelV v q.2
  | _, _, .nil, v, h => by cases h
  | p :: ps, x :: xs, .cons e t, v, h => by
    have ih := ent_get (k := k) t (v := v)
    unfold atKey at ih ⊢
    rw [List.find?_cons] at h ⊢
    rw [e.1]
    by_cases c : kOf p.1.2 = k
    · simp only [c, decide_true, Option.map_some, Option.some.injEq] at h ⊢
      subst h
      exact ⟨_, rfl, e.2.2⟩
    · simp only [c, decide_false] at h ⊢
      exact ih h
theorem ent_map {b : AD} {v : V} {u : Value} (hv : RelV v u) : ∀ {ps : List DE} {xs : List (NestedKey × Addr × Value)}, Paired EntR ps xs → Paired EntR (ps.map fun p => if kOf p.1.2 = kOf b.2 then (p.1, v) else p) (xs.map (putAt (kOf b.2) u))
  | _, _, .nil => .nil
  | p :: ps, x :: xs, .cons e t => by
    refine .cons ?_ (ent_map hv t)
    show EntR (if kOf p.1.2 = kOf b.2 then (p.1, v) else p) (putAt (kOf b.2) u x)
    unfold putAt
    rw [e.1]
    by_cases c : kOf p.1.2 = kOf b.2
    · rw [if_pos c, if_pos c]
      exact ⟨rfl, e.2.1, hv⟩
    · rw [if_neg c, if_neg c]
      exact e
theorem paired_app {α β : Type} {R : α → β → Prop} {a : List α} {b : List β} {c : α} {d : β} (h : R c d) : Paired R a b → Paired R (a ++ [c]) (b ++ [d])
  | .nil => .cons h .nil
  | .cons e t => .cons e (paired_app h t)
theorem ent_put {ps : List DE} {xs : List (NestedKey × Addr × Value)} {b : AD} {v : V} {u : Value} (r : Paired EntR ps xs) (hv : RelV v u) : Paired EntR (putE ps b v) (storedH xs (kOf b.2) b.1 u) := by
  unfold putE storedH
  rw [ent_any r]
  split
  · exact ent_map hv r
  · exact paired_app ⟨rfl, rfl, hv⟩ r
theorem ent_keys : ∀ {ps : List DE} {xs : List (NestedKey × Addr × Value)}, Paired EntR ps xs → xs.map (·.1) = ps.map fun p => kOf p.1.2
  | _, _, .nil => rfl
  | _, _, .cons e t => by rw [List.map_cons, List.map_cons, e.1, ent_keys t]
theorem putE_mem {ps : List DE} {b : AD} {v : V} {p : DE} (h : p ∈ putE ps b v) : p.1 = b ∨ p.1 ∈ ps.map (·.1) := by
  unfold putE at h
  split at h
  · obtain ⟨q, hq, e⟩ := List.mem_map.mp h
    right
    refine List.mem_map.mpr ⟨q, hq, ?_⟩
    split at e
    · rw [← e]
    · rw [e]
  · rcases List.mem_append.mp h with h | h
    · exact .inr (List.mem_map.mpr ⟨p, h, rfl⟩)
    · rw [List.mem_singleton.mp h]; exact .inl rfl
theorem OkE.put {K : KW} {H : Hp} {ps : List DE} {b : AD} {v : V} (h : OkE K H ps) (hb : (tkey b.2).isSome = true ∧ Dr K H (.ref b.1) b.2) : OkE K H (putE ps b v) := fun p hp => by
  obtain ⟨q, hq, rfl⟩ := List.mem_map.mp hp
  rcases putE_mem hq with e | e
  · rw [e]; exact hb
  · exact h _ e
section
variable {X : Cx} {pins : List (Addr × Obj)} {σ : L2.St} {H : Hp} {s : Shared}
theorem OkE.isN (I : L2.Inv X pins σ H s) (sys : ∃ o, X.base.get? sysModules = some o) {ps : List DE} (h : OkE (kx X) H ps) : ∀ p ∈ ps, IsN s.heap (kOf p.1.2) p.1.1 := fun p hp => (OkL.isN I sys h p.1 (List.mem_map.mpr ⟨p, hp, rfl⟩)).1
theorem dctN_at (I : L2.Inv X pins σ H s) (sys : ∃ o, X.base.get? sysModules = some o) {a : Addr} {ps : List DE} (ha : H a = some (DctN X.w a ps)) (ok : OkE (kx X) H ps) : ∃ xs, Paired EntR ps xs ∧ (a == sysModules) = false ∧ xs.length ≤ sizeLine ∧ Heap.DictOfH (nestedKind X.prog X.w) s.heap a xs :=
  DctN0.up (I.hok a _ ha).1 (ok.isN I sys)
theorem inv_tk (I : L2.Inv X pins σ H s) (t : Nat) : L2.Inv X pins σ H { s with toks := t } := ⟨I.ok, I.os, I.bare, I.base, I.loc, I.cell, I.free, I.freeC, I.pin, I.hok, I.len⟩
/-- a new empty dict may hold tuples -/
theorem dctN_new (I : L2.Inv X pins σ H s) {a : Addr} (ha : H a = some (.dK [])) : L2.Inv X pins σ (upd H a (DctN X.w a [])) s := by
  obtain ⟨_, ns, vs, kv, o, es, ep, ho, hx, hd, _, pe, _⟩ := I.hok a _ ha
  cases kv
  refine I.write (t' := s.toks) (h' := s.heap) (by rw [ha]; trivial) (.inl rfl) (fun b u _ e => e) ⟨o, ho⟩ (dctN_ok ⟨[], .nil, ns, Nat.zero_le _, ⟨o, es, ep, ho, hx, hd, ?_⟩, List.nodup_nil⟩)
  cases z : es.toList with
  | nil => rfl
  | cons e t => rw [z] at pe; cases pe
end
/-- k in d -/
def rInN (K : KW) (w : World) (neg : Bool) : V → V → Hp → VK → Prop := fun x y H Q => ∃ (a : Addr) (ps : List DE) (b : AD), x = .ref b.1 ∧ y = .ref a ∧ H a = some (DctN w a ps) ∧ OkE K H ps ∧ OkL K H [b] ∧ Q (.bl (if neg then !(ps.any fun p => decide (kOf p.1.2 = kOf b.2)) else ps.any fun p => decide (kOf p.1.2 = kOf b.2))) H
theorem or_inN {X : Cx} (sys : ∃ o, X.base.get? sysModules = some o) (hu : X.A.units + 100 < cLine) : OpR X (compareOp .In) (rInN (kx X) X.w false) := by
  rintro pins s σ H x y v u Q I rx ry ⟨a, ps, b, rfl, rfl, ha, ok, okb, q⟩
  cases rx
  cases ry
  obtain ⟨xs, r, ns, _, hd⟩ := dctN_at I sys ha ok
  have kb := (okb.isN I sys b (by simp)).1
  have u1 : X.A.in1.units = X.A.units + 1 := rfl
  refine wpAny_in_heap (knd := nestedKind X.prog X.w) (by show X.A.in1.units + 8 < cLine; omega) kb ns hd ?_
  rw [ent_any r]
  exact ⟨.bl _, H, inv_tk I _, rfl, q⟩
theorem or_ninN {X : Cx} (sys : ∃ o, X.base.get? sysModules = some o) (hu : X.A.units + 100 < cLine) : OpR X (compareOp .NotIn) (rInN (kx X) X.w true) := by
  rintro pins s σ H x y v u Q I rx ry ⟨a, ps, b, rfl, rfl, ha, ok, okb, q⟩
  cases rx
  cases ry
  obtain ⟨xs, r, ns, _, hd⟩ := dctN_at I sys ha ok
  have kb := (okb.isN I sys b (by simp)).1
  have u1 : X.A.in1.units = X.A.units + 1 := rfl
  refine wpAny_notIn_heap (knd := nestedKind X.prog X.w) (by show X.A.in1.units + 8 < cLine; omega) kb ns hd ?_
  rw [ent_any r]
  exact ⟨.bl _, H, inv_tk I _, rfl, q⟩
/-- d[k] of a key that is there -/
def rIxN (K : KW) (w : World) : V → V → Hp → VK → Prop := fun x y H Q => ∃ (a : Addr) (ps : List DE) (b : AD) (v : V), x = .ref a ∧ y = .ref b.1 ∧ H a = some (DctN w a ps) ∧ OkE K H ps ∧ OkL K H [b] ∧ getE ps b = some v ∧ Q v H
theorem ix_N {X : Cx} (sys : ∃ o, X.base.get? sysModules = some o) (hu : X.A.units + 100 < cLine) {pins : List (Addr × Obj)} {s : Shared} {σ : L2.St} {H : Hp} {x y : V} {v u : Value} {Q : VK} (I : L2.Inv X pins σ H s) (rx : RelV x v) (ry : RelV y u) (h : rIxN (kx X) X.w x y H Q) :
    wpAny (model X.prog X.w) X.A (getItem v u) (EP X pins σ Q) X.xe s := by
  obtain ⟨a, ps, b, z, rfl, rfl, ha, ok, okb, g, q⟩ := h
  cases rx
  cases ry
  obtain ⟨xs, r, ns, _, hd⟩ := dctN_at I sys ha ok
  have kb := (okb.isN I sys b (by simp)).1
  have u1 : X.A.in1.units = X.A.units + 1 := rfl
  obtain ⟨e, he, rv⟩ := ent_get r g
  exact wpAny_getItem_heap (knd := nestedKind X.prog X.w) (by show X.A.in1.units + 8 < cLine; omega) kb hd he ⟨z, H, inv_tk I _, rv, q⟩
/-- d.get(k, v) -/
def rGetN (K : KW) (w : World) : V → List V → Hp → VK → Prop := fun x xs H Q => ∃ (a : Addr) (ps : List DE) (b : AD) (v : V), x = .ref a ∧ xs = [.ref b.1, v] ∧ H a = some (DctN w a ps) ∧ OkE K H ps ∧ OkL K H [b] ∧ Q ((getE ps b).getD v) H
/-- d[k] = v -/
def DPutN (K : KW) (w : World) (H : Hp) (a : Addr) (y v : V) (H' : Hp) : Prop := ∃ (ps : List DE) (b : AD), y = .ref b.1 ∧ H a = some (DctN w a ps) ∧ OkE K H ps ∧ OkL K H [b] ∧ ps.length < sizeLine ∧ H' = upd H a (DctN w a (putE ps b v))
theorem d_putN {X : Cx} (sys : ∃ o, X.base.get? sysModules = some o) (hu : X.A.units + 100 < cLine) {pins : List (Addr × Obj)} {s : Shared} {σ : L2.St} {H H' : Hp} {a : Addr} {y v : V} {u r : Value} (I : L2.Inv X pins σ H s) (g : DPutN (kx X) X.w H a y v H') (ry : RelV y u) (rv : RelV v r)
    {Q : Unit → Shared → Prop} {E : Value → Shared → Prop} (hQ : ∀ s', L2.Inv X pins σ H' s' → Q () s') : wpAny (model X.prog X.w) X.A (setItem (.ref a) u r) Q E s := by
  obtain ⟨ps, b, rfl, ha, ok, okb, sz, rfl⟩ := g
  cases ry
  obtain ⟨xs, rr, ns, sx, hd⟩ := dctN_at I sys ha ok
  have kb := (okb.isN I sys b (by simp)).1
  have u1 : X.A.in1.units = X.A.units + 1 := rfl
  have lx : xs.length = ps.length := by
    have := congrArg List.length (ent_keys rr)
    simpa using this
  refine wpAny_setItem_heap (knd := nestedKind X.prog X.w) (by show X.A.in1.units + 8 < cLine; omega) kb hd (fun h' hd' sb => ?_) sx
  refine hQ _ (I.write (by rw [ha]; trivial) (.inl rfl) (fun c w' hc hw => (sb.2 c hc).trans hw) ?_ (dctN_ok (DctN0.down (ent_put rr rv) ns ?_ hd')))
  · obtain ⟨o, _, _, ho, _⟩ := hd'
    exact ⟨o, ho⟩
  · have := storedH_length xs (kOf b.2) b.1 r
    omega
def sDPutN (K : KW) (w : World) (td ty tv : TE) : TS := fun D σ H => tv σ H fun v H1 => td σ H1 fun x H2 => ty σ H2 fun y H3 => ∃ a H4, x = V.ref a ∧ DPutN K w H3 a y v H4 ∧ D.nx σ H4
theorem ps_dputN {X : Cx} (sys : ∃ o, X.base.get? sysModules = some o) (hu : X.A.units + 100 < cLine) {o i value : Expr} {pos pos' : Pos} {td ty tv : TE} (ho : PE X o td) (hi : PE X i ty) (hv : PE X value tv) (hs : swapsWith value (some (.Subscript o i pos')) pos.line X.env = pure false) :
    PS X (.Assign [.Subscript o i pos'] value pos) (sDPutN (kx X) X.w td ty tv) := ⟨fun pins s σ H D I h => by
  refine wpAny_Assign_Subscript (thn (hv.run pins s σ H _ I h) fun r s1 ⟨v, H1, I1, rv, q1⟩ => ?_) hs
  refine thn (ho.run pins s1 σ H1 _ I1 q1) fun u s2 ⟨x, H2, I2, rx, q2⟩ => ?_
  refine thn (hi.run pins s2 σ H2 _ I2 q2) fun iv s3 ⟨y, H3, I3, ry, a, H4, ex, g, q3⟩ => ?_
  subst ex
  cases rx
  exact d_putN sys hu I3 g ry rv fun s4 I4 => ⟨σ, H4, I4, q3⟩⟩
end PD
set_option Elab.async false
set_option linter.all false
set_option maxRecDepth 100000
set_option maxHeartbeats 4000000
namespace HT
open PySem PySem.Spec PyProof.Rows
/-! ### t[::-1] -/
theorem adjust_rev (n : Nat) : Builtin.Slice.sliceAdjust none none (-1) (n : Int) = ((n : Int) - 1, -1) := rfl
theorem places_rev (n : Nat) : Builtin.Slice.slicePlaces ((n : Int) - 1) (-1) (-1) = n := by
  unfold Builtin.Slice.slicePlaces
  have h1 : ¬ ((-1 : Int) > 0) := by decide
  simp only [h1, if_false]
  split
  · rw [show (- -1 : Int) = 1 by decide, Int.ediv_one]; omega
  · omega
theorem pick_rev (xs : Array Value) : ((List.range xs.size).filterMap fun (m : Nat) => xs[(((xs.size : Int) - 1) + (m : Int) * (-1)).toNat]?).toArray = xs.toList.reverse.toArray := by
  have e : (List.range xs.size).filterMap (fun (m : Nat) => xs[(((xs.size : Int) - 1) + (m : Int) * (-1)).toNat]?) = ((List.range xs.size).map fun k => xs.size - 1 - k).filterMap (xs[·]?) := by
    rw [List.filterMap_map]
    congr 1
    funext m
    show xs[(((xs.size : Int) - 1) + (m : Int) * (-1)).toNat]? = xs[xs.size - 1 - m]?
    congr 1
    omega
  rw [e, PySem.W.krv_range, List.filterMap_reverse, PySem.W.krv_all]
section
variable {prog : Program} {w : World} {A : Around} {E : Value → Shared → Prop} {s : Shared}
theorem sliceApplied_rev {sl : Addr} {u : Tok} {n : Nat} {Q : Int × Int × Nat → Shared → Prop} (hs : s.heap.IsSliceOf sl .none .none (.int (-1) u))
    (h : Q ((n : Int) - 1, -1, n) s) : wpAny (model prog w) A (Builtin.Slice.sliceApplied (.ref sl) (pure (n : Int))) Q E s := by
  obtain ⟨os, hos, hcs, hds⟩ := id hs
  unfold Builtin.Slice.sliceApplied Builtin.Slice.sliceFields
  refine wpAny_bind (wpAny_bind (wpAny_field hos hds (x := .none) rfl (wpAny_bind (wpAny_field hos hds (x := .none) rfl (wpAny_bind (wpAny_field hos hds (x := .int (-1) u) rfl (wpAny_pure ?_)))))))
  refine wpAny_bind (slicePart_int ?_)
  show wpAny _ _ (if ((-1 : Int) == 0) = true then _ else _) _ _ s
  rw [if_neg (by decide)]
  refine wpAny_bind (slicePart_none (wpAny_bind (slicePart_none (wpAny_bind (wpAny_pure ?_)))))
  show wpAny _ _ (match Builtin.Slice.sliceAdjust none none (-1) (n : Int) with | (lo, hi) => pure (lo, (-1 : Int), Builtin.Slice.slicePlaces lo hi (-1))) _ _ s
  rw [adjust_rev n]
  show wpAny _ _ (pure ((n : Int) - 1, (-1 : Int), Builtin.Slice.slicePlaces ((n : Int) - 1) (-1) (-1))) _ _ s
  rw [places_rev]
  exact wpAny_pure h
theorem getItem_tuple_rev {t sl : Addr} {items : Array Value} {u : Tok} {Q : Value → Shared → Prop} (ht : IsTup s.heap t items) (hs : s.heap.IsSliceOf sl .none .none (.int (-1) u))
    (h : Q (.ref s.heap.objs.size) { s with heap := s.heap.push { cls := .type "tuple", data := .seq items.toList.reverse.toArray } })
    (hsz : items.size ≤ sizeLine) : wpAny (model prog w) A (getItem (.ref t) (.ref sl)) Q E s := by
  have htake : sizeOk (.seq items.toList.reverse.toArray) := by
    show items.toList.reverse.toArray.size ≤ sizeLine
    rw [List.size_toArray, List.length_reverse, Array.length_toList]
    exact hsz
  obtain ⟨os, hos, hcs, hds⟩ := id hs
  have hTs : s.TypeIs (.ref sl) "slice" := ⟨os, hos, hcs⟩
  unfold getItem
  try with_reducible refine wpAny_holding ?_
  first | refine wpAny_bind (wpAny_pure ?_) | skip
  refine wpAny_bind (wpAny_sequenceKey ht.typeIs (by decide) ?_)
  refine wpAny_bind (wpAny_callSpecial?_slot (name := Str.ofString "__getitem__") ht.typeIs PyProof.Rows.slot_tuple_getitem
    (wpAny_call_entry PyProof.Rows.slot_tuple_getitem ht.typeIs entry_tuple_getitem ?_ (args_tuple_getitem _ _)))
  show wpAny _ _ (Builtin.Tuple.tupleItemsOf (.ref t) >>= _) _ _ s
  refine wpAny_bind (tupleItemsOf_ ht ?_)
  refine wpAny_bind (wpAny_typeOf hTs ?_)
  rw [if_pos (by decide)]
  refine wpAny_bind (sliceApplied_rev hs ?_)
  have hno : ¬ ((((items.size : Int) - 1) == 0 && (-1 : Int) == 1 && items.size == items.size) = true) := by
    intro q
    rw [Bool.and_eq_true, Bool.and_eq_true] at q
    exact absurd q.1.2 (by decide)
  show wpAny _ _ (if (((items.size : Int) - 1) == 0 && (-1 : Int) == 1 && items.size == items.size) = true then _ else _) _ _ s
  rw [if_neg hno, pick_rev]
  first
    | exact wpAny_bind (m := Builtin.Tuple.tupleExact _) (wpAny_newObj_type (wpAny_pure ⟨_, rfl, wpAny_pure h⟩) htake)
    | exact wpAny_bind (m := Builtin.Tuple.tupleExact _) (wpAny_newObj_type (wpAny_bind (wpAny_pure (wpAny_pure ⟨_, rfl, wpAny_pure h⟩))) htake)
    | exact wpAny_bind (wpAny_bind (m := Builtin.Tuple.tupleExact _) (wpAny_newObj_type (wpAny_pure (wpAny_pure ⟨_, rfl, wpAny_pure h⟩)) htake))
    | exact wpAny_bind (wpAny_bind (m := Builtin.Tuple.tupleExact _) (wpAny_newObj_type (wpAny_pure ⟨_, rfl, wpAny_pure h⟩) htake))
end
end HT
namespace PD
open PySem PySem.Spec L2 PyProof.Rows
/-- a list or a tuple, turned about -/
def rRevA (K : PySem.W.Frag) : V → Hp → VK → Prop := fun x H1 Q => ∃ a xs, x = .ref a ∧ ((SqL K H1 a xs ∧ ∀ p, H1 p = none → Q (.ref p) (upd H1 p (.lst xs.reverse))) ∨ (SqT K H1 a xs ∧ ∀ p, H1 p = none → Q (.ref p) (upd H1 p (.tup xs.reverse))))
theorem pe_revA {X : Cx} {e : Expr} {te : TE} {k : Nat} {p1 p2 p3 pos : Pos} (he : PE X e te) : PE X (.Subscript e (.Slice none none (some (.UnaryOp .USub (.Constant (.int 1) k p1) p2)) p3) pos) (fun σ H Q => te σ H fun x H1 => rRevA X.K x H1 Q) := by
  refine ⟨fun pins s σ H Q I h => ?_⟩
  refine Subscript_ (thn (he.run pins s σ H _ I h) fun v s1 ⟨x, H1, I1, r1, q1⟩ => ?_)
  obtain ⟨a, xs, ex, hq⟩ := q1
  subst ex
  cases r1
  have hst : PO X (some (.UnaryOp .USub (.Constant (.int 1) k p1) p2)) (tPart (tUn (rU fun i => .int (-i)) (tC (.int 1)))) := po_some (pe_un un_neg pe_int)
  refine wpAny_Slice (thn (po_none.run pins s1 σ H1 (fun o H2 => o = none ∧ H2 = H1) I1 ⟨rfl, rfl⟩) fun vl s2 ⟨l, H2, I2, pl, el, e2⟩ => ?_)
  subst el e2
  refine thn (po_none.run pins s2 σ H2 (fun o H3 => o = none ∧ H3 = H2) I2 ⟨rfl, rfl⟩) fun vu s3 ⟨u, H3, I3, pu, eu, e3⟩ => ?_
  subst eu e3
  refine thn (hst.run pins s3 σ H3 (fun o H4 => o = some (-1) ∧ H4 = H3) I3 ⟨1, rfl, -1, rfl, rfl, rfl⟩) fun vs s4 ⟨o, H4, I4, ps, eo, e4⟩ => ?_
  subst eo e4
  have I5 : Inv X pins σ H4 { s4 with heap := s4.heap.push { cls := .type "slice", data := .fields #[vl, vu, vs] } } := I4.kept (t' := s4.toks) fun b ob q => Heap.get?_push_of_some _ q
  show wpAny (model X.prog X.w) X.A (subscriptTail e (.Slice none none (some (.UnaryOp .USub (.Constant (.int 1) k p1) p2)) p3) (.ref a) (.ref s4.heap.objs.size)) (EP X pins σ Q) X.xe { s4 with heap := s4.heap.push { cls := .type "slice", data := .fields #[vl, vu, vs] } }
  rcases hq with ⟨hx, q⟩ | ⟨hx, q⟩
  · obtain ⟨its, r, ht, hz⟩ := I5.list hx
    have hlen := r.length
    refine tail_any (ops := [.ref a, .ref s4.heap.objs.size]) ht.isList.typeIs (PySem.slot_list_getitem.lookup) ?_ (by with_unfolding_all rfl)
    refine wpAny_getItem_list_slice ht.isList (Heap.IsSliceOf.new _ vl vu vs) pl pu ps (by decide) ?_ (by rw [List.size_toArray]; omega)
    rw [PySem.W.krv_pick]
    refine ⟨.ref _, _, I5.laid (t' := s4.toks) (o := .lst xs.reverse) (fun b ob q => Heap.get?_push_of_some _ q) (Nat.le_refl _) ?_, rfl, q _ (I5.hok.fresh (Nat.le_refl _))⟩
    exact ⟨by rw [List.length_reverse]; exact hz, _, 0, r.reverse, Heap.get?_push_size _ rfl⟩
  · obtain ⟨its, r, ht, hz⟩ := I5.tuple hx
    have hlen := r.length
    cases pl
    cases pu
    cases ps with
    | int _ t =>
    refine tail_any (ops := [.ref a, .ref s4.heap.objs.size]) ht.typeIs (PyProof.Rows.slot_tuple_getitem.lookup) ?_ (by with_unfolding_all rfl)
    refine HT.getItem_tuple_rev ht (Heap.IsSliceOf.new _ .none .none (.int (-1) t)) ?_ (by rw [List.size_toArray]; omega)
    refine ⟨.ref _, _, I5.laid (t' := s4.toks) (o := .tup xs.reverse) (fun b ob q => Heap.get?_push_of_some _ q) (Nat.le_refl _) ?_, rfl, q _ (I5.hok.fresh (Nat.le_refl _))⟩
    exact ⟨by rw [List.length_reverse]; exact hz, its.reverse, r.reverse, IsTup.new _ _⟩
end PD
set_option Elab.async false
set_option linter.all false
set_option maxRecDepth 100000
set_option maxHeartbeats 4000000
namespace PD
open PySem PySem.Spec L2 PyProof.Rows
theorem u1V_inv {k : U1} {x : Vl} {z : D} (h : u1V k x = some z) : (∃ d, asD x = some d ∧ u1D k d = some z) ∨ ∃ ds, x = .co (.set ds) ∧ k = .srt ∧ srtOk ds = true ∧ z = .list (isortD ds) := by
  unfold u1V at h
  split at h
  · rename_i ds
    split at h
    · split at h
      · cases h
        exact .inr ⟨ds, rfl, rfl, by assumption, rfl⟩
      · cases h
    · cases h
  · obtain ⟨d, h1, h2⟩ := Option.bind_eq_some_iff.mp h
    exact .inl ⟨d, h1, h2⟩
theorem srtOk_perm {l m : List D} (p : l.Perm m) (h : srtOk l = true) : srtOk m = true := by
  unfold srtOk at h ⊢
  simp only [Bool.and_eq_true, Bool.or_eq_true, List.all_eq_true] at h ⊢
  obtain ⟨h1, h2, h3⟩ := h
  have e : ∀ {x}, x ∈ m → x ∈ l := fun hx => p.mem_iff.mpr hx
  refine ⟨fun x hx y hy => h1 x (e hx) y (e hy), ?_, fun x hx => h3 x (e hx)⟩
  rcases h2 with h2 | h2
  · exact .inl fun x hx => h2 x (e hx)
  · exact .inr fun x hx => h2 x (e hx)
def rSrt2 (K : KW) (w : World) : List V → Hp → VK → Prop := fun vs H Q => rSrt K vs H Q ∨ rSortN K w vs H Q
theorem cr_sorted2 {X : Cx} (hc : X.calm = true) (sys : ∃ o, X.base.get? sysModules = some o) (hu : X.A.units + 100 < cLine) : CallR X (.builtin "sorted") (rSrt2 (kx X) X.w) := by
  intro pins s σ H vs us Q I r h
  rcases h with h | h
  · exact cr_sorted sys hu pins s σ H vs us Q I r h
  · exact cr_sortedN hc sys hu pins s σ H vs us Q I r h
section
variable {X : Cx} {S : Sig} {W : WX} {C : Cfg} {F : Fns}
/-- the semantic side of a question of one value -/
theorem u1_bd {k : U1} {c : E} {r : V → Hp → VK → Prop} (h : ∀ g v x z H0 H Q, Same H0 H → GenAt S.gm g H0 H → LamX.Tabs S.T H → VR S H0 H v x → u1V k x = some z → (∀ v' H0' H', Aft S g H0 H H0' H' → Dr S.K H0' v' z → Q v' H') → r v H Q)
    {σ : L2.St} {H : Hp} {Q : VK} (q : RE S W (fun env => (ev F c env).bd fun x => .ofO ((u1V k x).map .d)) σ H Q) : RE S W (ev F c) σ H (fun v H' => r v H' Q) := by
  obtain ⟨env, g, He, H0e, H0, R, z⟩ := q
  refine ⟨env, g, He, H0e, H0, R, Pst.bd z fun x g1 v H1 H1' a1 r1 z1 => ?_⟩
  have R1 := R.step a1
  have z1 : Pst S W σ H1 H1' (VR S) Q (M.ofO ((u1V k x).map .d) g1) := z1
  cases e2 : u1V k x with
  | none => rw [e2] at z1; exact z1.elim
  | some y =>
    rw [e2] at z1
    exact h g1 v x y H1 H1' Q R1.sub R1.gen R1.tabs r1 e2 fun v' H2 H2' a2 r2 => z1 v' H2 H2' a2 r2
theorem s_u1 {k : U1} {e : Expr} {c : E} (hp : PE X e (RE S W fun env => (ev F c env).bd fun x => .ofO ((u1V k x).map .d))) (hn : ∀ (rest : List Expr) (env : PySem.Env), starEach (e :: rest) env = (false, eval e env) :: starEach rest env) : SE X S W F e (.u1 k c) := by
  refine ⟨RE.eq hp fun env => by simp only [ev], ⟨fun pins s σ H Q I q => ?_⟩, hn⟩
  simp only [evT] at q
  obtain ⟨env, g, He, H0e, H0, R, q⟩ := q
  exact q.elim
theorem s_srt {p pos : Pos} {a : Expr} {c : E} (G : Gd X S W C F) (g1 : glB C.sc "sorted" = true) (h : SE X S W F a c) : SE X S W F (.Call (.Name "sorted" p) [a] [] pos) (.u1 .srt c) := by
  refine s_u1 (PE.weak (pe_callB (cr_sorted2 G.calm G.sys (by have := G.room.un; omega)) (gl_of G.hsc g1) (G.blt _ (by simp [bltNames])) (by decide +kernel) (pa_cons h.pe pa_nil (h.ns _ _)) (he := h.ns _ _)) fun σ H Q z => ?_) fun _ _ => rfl
  refine u1_bd (r := fun v H Q => rSrt2 (kx X) X.w [v] H Q) (fun g v x y H0 H Q sub gen tabs r1 ev q => ?_) z
  obtain ⟨d, e1, e2⟩ | ⟨ds, rfl, _, so, rfl⟩ := u1V_inv ev
  · left
    rw [G.kx]
    have e2 : srtD d = some y := e2
    cases d with
    | list ds =>
      obtain ⟨hok, rfl⟩ := ifO (show (if srtOk ds = true then some (PyData.list (isortD ds)) else none) = some y from e2)
      obtain ⟨l, xs, rfl, k1, k2⟩ := r1.lst sub e1
      refine ⟨l, xs, ds, Dr S.K H0, rfl, SqL.of k1, k2.same sub, rall_of k2, hok, fun pN ys hy hn => ?_⟩
      exact q _ _ _ (Aft.new sub gen tabs hn (fun ps z => by cases z)) (Dr.lst upd_same ((of_rall hy).same (same_new (sub.free hn))))
    | _ => cases e2
  · right
    obtain ⟨a, u, rfl, ha, ps, rfl, ok, pm⟩ := r1
    have so' := srtOk_perm pm.symm so
    refine ⟨a, ps, rfl, ?_, ?_, so', fun pN ys di dS hn => ?_⟩
    · rw [ha, ← G.kx]
    · rw [G.kx]
      exact ok.same sub
    · have e := isort_perm (srtOk_inv so').1 di pm.symm
      rw [e] at q
      exact q _ _ _ (Aft.new sub gen tabs hn (fun ps z => by cases z)) (Dr.lst upd_same ((dS S.K H0 ok).same (same_new (sub.free hn))))
theorem s_rev {k : Nat} {p1 p2 p3 pos : Pos} {a : Expr} {c : E} (G : Gd X S W C F) (h : SE X S W F a c) : SE X S W F (.Subscript a (.Slice none none (some (.UnaryOp .USub (.Constant (.int 1) k p1) p2)) p3) pos) (.u1 .rev c) := by
  refine s_u1 (PE.weak (pe_revA h.pe) fun σ H Q z => ?_) fun _ _ => rfl
  refine u1_bd (r := fun v H Q => rRevA X.K v H Q) (fun g v x y H0 H Q sub gen tabs r1 ev q => ?_) z
  obtain ⟨d, e1, e2⟩ | ⟨ds, _, ek, _⟩ := u1V_inv ev
  case inr => cases ek
  rw [G.hK]
  have e2 : revD d = some y := e2
  cases d with
  | list ds =>
    cases e2
    obtain ⟨l, xs, rfl, k1, k2⟩ := r1.lst sub e1
    exact ⟨l, xs, rfl, .inl ⟨SqL.of k1, fun p hp => q _ _ _ (Aft.new sub gen tabs hp (fun ps z => by cases z)) (.lst upd_same (k2.reverse.same (same_new (sub.free hp))))⟩⟩
  | tuple ds =>
    cases e2
    obtain ⟨l, xs, rfl, k1, k2⟩ := (r1.tup e1).tup_inv
    exact ⟨l, xs, rfl, .inr ⟨sqT_same sub k1, fun p hp => q _ _ _ (Aft.new sub gen tabs hp (fun ps z => by cases z)) (.tup (SqT.of upd_same) (k2.reverse.same (same_new (sub.free hp))))⟩⟩
  | _ => cases e2
theorem s_dic {p pos : Pos} {a : Expr} {c : E} (G : Gd X S W C F) (g1 : glB C.sc "dict" = true) (h : SE X S W F a c) : SE X S W F (.Call (.Name "dict" p) [a] [] pos) (.u1 .dic c) := by
  refine s_u1 (PE.weak (pe_lockV (pe_callTy (call_dictP G.calm) (gl_of G.hsc g1) (G.blt _ (by simp [bltNames])) (by decide +kernel) (pa_cons h.pe pa_nil (h.ns _ _)) (he := h.ns _ _))) fun σ H Q z => ?_) fun _ _ => rfl
  refine u1_bd (r := fun v H Q => ∃ (a : Addr) (ps : List Addr) (kvs : List (Key × V)), [v] = [V.ref a] ∧ SqL X.K H a (ps.map V.ref) ∧ Paired (fun p kv => SqT X.K H p [kV kv.1, kv.2]) ps kvs ∧
    ∀ p, H p = none → ∃ a u, V.ref p = .ref a ∧ upd H p (.dK (mergeK [] kvs)) a = some u ∧ Mut (some u) ∧ ∀ o, Q (V.ref p) (upd (upd H p (.dK (mergeK [] kvs))) a (.frz o u))) (fun g v x y H0 H Q sub gen tabs r1 ev q => ?_) z
  obtain ⟨d, e1, e2⟩ | ⟨ds, _, ek, _⟩ := u1V_inv ev
  case inr => cases ek
  rw [G.hK]
  have e2 : dicD d = some y := e2
  cases d with
  | list ps =>
    have e2 : (ps.mapM pairK).map (fun kvs => PyData.dict (mergeD [] kvs)) = some y := e2
    cases e3 : ps.mapM pairK with
    | none => rw [e3] at e2; cases e2
    | some kds =>
      rw [e3] at e2
      cases e2
      obtain ⟨l, xs, rfl, k1, k2⟩ := r1.lst sub e1
      obtain ⟨as, kvs, rfl, k3, k4⟩ := pairs_dr k2 e3
      refine ⟨l, as, kvs, rfl, SqL.of k1, paired_same sub k3, fun pN hn => ⟨pN, _, rfl, upd_same, trivial, fun o => ?_⟩⟩
      rw [upd_upd]
      have m := KD.merge k4 (Paired.nil : KD S.K H0 [] [])
      obtain ⟨m1, m2⟩ := m.split
      refine q _ _ _ (Aft.new sub gen tabs hn (fun ps z => by cases z)) ?_
      show Dr S.K _ _ (.dict (mergeD [] kds))
      rw [m1]
      exact Dr.dct upd_same (m2.same (same_new (sub.free hn)))
  | _ => cases e2
end
end PD
set_option Elab.async false
set_option linter.all false
set_option maxRecDepth 100000
set_option autoImplicit false
namespace PD
open PySem PySem.Spec L2

/-! ### a call, by its forms -/
def genCall (C : Cfg) (f : Str) (es : List Expr) : Option E :=
    if f = "sorted" && glB C.sc f && (fnIx C.fns f 1).isNone then orSrt ((cEs C es).bind (oneU .srt)) (match es with
      | [.Call (.Name g _) [a] [] _] => if g = "set" && glB C.sc g && (fnIx C.fns g 1).isNone then (cE C a).map .sset else none
      | _ => none)
    else if glB C.sc f && !dbg f then (cEs C es).bind fun xs => (match fnIx C.fns f xs.length with
      | some i => some (.call i xs)
      | none =>
        if f = "len" && xs.length = 1 then some (.bf .len xs)
        else if f = "tuple" && xs.length = 1 then some (.bf .tuple xs)
        else if f = "list" && xs.length = 1 then some (.bf .list xs)
        else if f = "repr" && xs.length = 1 then some (.bf .repr xs)
        else if f = "int" && xs.length = 1 then some (.bf .int xs)
        else if f = "all" && xs.length = 1 then some (.bf .all xs)
        else if f = "min" && xs.length = 2 then some (.bf .min2 xs)
        else if f = "dict" then oneU .dic xs
        else none)
    else none
def twoCall (C : Cfg) (f : Str) (a b : Expr) : Option E :=
    if f = "isinstance" && glB C.sc f && (fnIx C.fns f 2).isNone then (match b with
      | .Tuple ts _ _ => (ts.mapM fun t => tyName t C).bind fun ts => if ts.length ≤ 10 then (cE C a).map fun a => .bf (.isinst ts) [a] else none
      | t => (tyName t C).bind fun t => (cE C a).map fun a => .bf (.isinst [t]) [a])
    else if glB C.sc f && !dbg f then (cE C a).bind fun a => (cE C b).bind fun b =>
      (match fnIx C.fns f 2 with
      | some i => some (.call i [a, b])
      | none => if f = "min" then some (.bf .min2 [a, b]) else none)
    else none
theorem cE_call {C : Cfg} {f : Str} {p pos : Pos} {es : List Expr} {c : E} (h : cE C (.Call (.Name f p) es [] pos) = some c) :
    (∃ a b, es = [a, b] ∧ twoCall C f a b = some c) ∨ (∃ params body scope lpos, es = [.Lambda params body scope lpos] ∧ (if C.lam && f = "_law_said" && glB C.sc f && lamB C params scope then (cE (C.lamb scope) body).map E.said else none) = some c) ∨ genCall C f es = some c := by
  rw [cE.eq_def] at h
  cases es with
  | nil => exact .inr (.inr h)
  | cons x r =>
    cases r with
    | nil =>
      cases x with
      | Lambda params body scope lpos => exact .inr (.inl ⟨params, body, scope, lpos, rfl, h⟩)
      | _ => exact .inr (.inr h)
    | cons b r =>
      cases r with
      | cons _ _ => cases x <;> exact .inr (.inr h)
      | nil => cases x <;> exact .inl ⟨_, b, rfl, h⟩
def mkI (C : Cfg) (tg iter : Expr) : Option I := (match iter with
      | .Call (.Name f _) [a] [] _ => if rngOk C f 1 then some ((cE C a).map I.rng1) else if enumOk C f (isTup tg) then some ((cE C a).map I.enum) else none
      | .Call (.Name f _) [a, b] [] _ => if rngOk C f 2 then some ((cE C a).bind fun a => (cE C b).map fun b => I.rng2 a b) else none
      | _ => none).getD ((cE C iter).map I.e)
def mkLc (C : Cfg) (elt tg iter : Expr) (ifs : List Expr) (scope : Scope) : Option E := match blkC C.N C.sc scope (ownOf C.N scope) with
    | true => (mkI C tg iter).bind fun it => (cTg (C.tgt scope) tg).bind fun t => (cIfs (C.inn scope) ifs).bind fun k => (cE (C.inn scope) elt).bind fun e =>
      if (tgIx t).all (fun i => decide (i ∈ (ownOf C.N scope).map Prod.snd)) then some (.lc t it k e ((ownOf C.N scope).map Prod.snd)) else none
    | false => none
theorem cE_lc {C : Cfg} {elt tg iter : Expr} {ifs : List Expr} {scope : Scope} {pos : Pos} {c : E} (h : cE C (.ListComp elt [⟨tg, iter, ifs, 0⟩] scope pos) = some c) : mkLc C elt tg iter ifs scope = some c := by
  rw [cE.eq_def] at h; exact h
theorem bindS {α β : Type} {o : Option α} {f : α → Option β} {b : β} (h : o.bind f = some b) : ∃ a, o = some a ∧ f a = some b := by
  cases o with
  | none => cases h
  | some a => exact ⟨a, rfl, h⟩
theorem cEst_inv {C : Cfg} : ∀ {es : List Expr} {q : List E × E}, cEst C es = some q → ∃ es1 e p, es = es1 ++ [.Starred e p] ∧ cEs C es1 = some q.1 ∧ cE C e = some q.2
  | [], q, h => by rw [cEst] at h; cases h
  | e :: es, q, h => by
    have plain : ((cE C e).bind fun a => (cEst C es).map fun q => (a :: q.1, q.2)) = some q → ∃ es1 e' p, e :: es = es1 ++ [.Starred e' p] ∧ cEs C es1 = some q.1 ∧ cE C e' = some q.2 := fun h => by
      obtain ⟨a, h1, h⟩ := bindS h
      obtain ⟨q', h2, rfl⟩ := mapS h
      obtain ⟨es1, e', p, rfl, k1, k2⟩ := cEst_inv h2
      exact ⟨e :: es1, e', p, rfl, by rw [cEs, h1, k1]; rfl, k2⟩
    cases es with
    | cons b r =>
      refine plain ?_
      rw [cEst.eq_def] at h
      cases e <;> exact h
    | nil =>
      cases e with
      | Starred e' p =>
        rw [cEst.eq_def] at h
        obtain ⟨c, h1, rfl⟩ := mapS h
        exact ⟨[], e', p, rfl, by rw [cEs], h1⟩
      | _ =>
        refine plain ?_
        rw [cEst.eq_def] at h
        exact h
section
variable {X : Cx} {S : Sig} {W : WX} {C : Cfg} {F : Fns}
theorem ses_of : ∀ (es : List Expr) {cs : List E}, (∀ e ∈ es, ∀ c, cE C e = some c → SE X S W F e c) → cEs C es = some cs → SEs X S W F es cs
  | [], cs, _, h => by
    have h : some [] = some cs := h
    cases h; exact .nil
  | e :: es, cs, ih, h => by
    rw [cEs] at h
    obtain ⟨c, h1, h⟩ := bindS h
    obtain ⟨cs', h2, rfl⟩ := mapS h
    exact .cons (ih e (by simp) c h1) (ses_of es (fun e' he => ih e' (by simp [he])) h2)
theorem so_of {o : Option Expr} {c : Option E} (ih : ∀ e, o = some e → ∀ c, cE C e = some c → SE X S W F e c) (h : cEO C o = some c) : SO X S W F o c := by
  cases o with
  | none =>
    have h : some none = some c := h
    cases h; exact so_none
  | some e =>
    rw [cEO] at h
    obtain ⟨c', h1, rfl⟩ := mapS h
    exact so_some (ih e rfl _ h1)
theorem sifs_of {es : List Expr} {c : Option E} (ih : ∀ e ∈ es, ∀ c, cE C e = some c → SE X S W F e c) (h : cIfs C es = some c) : PTs X es (RT S W (evOT F c)) := by
  cases es with
  | nil =>
    have h : some none = some c := h
    cases h
    exact ⟨fun pins s σ H Q I q => pts_nil.run pins s σ H Q I (by
      obtain ⟨env, g, He, H0e, H0, R, q⟩ := q
      simp only [evOT] at q
      exact q true H0 H (Aft.refl R) rfl)⟩
  | cons e r =>
    cases r with
    | nil =>
      rw [cIfs] at h
      obtain ⟨c', h1, rfl⟩ := mapS h
      have p := (ih e (by simp) _ h1).pt
      have p : PT X e (RT S W (evOT F (some c'))) := RT.eq p fun env => by simp only [evOT]
      exact pts_one p
    | cons _ _ => rw [cIfs] at h; cases h; all_goals simp
/-- the tests of lists etc. are of the size below -/
theorem s_bool {op : BoolOp} {es : List Expr} {cs : List E} {c : E} {pos : Pos} (G : Gd X S W C F) (h : SEs X S W F es cs) (e : (match op with | .And => andE cs | .Or => orE cs) = some c) : SE X S W F (.BoolOp op es pos) c := by
  cases op with
  | And =>
    obtain ⟨h1, h2⟩ := s_and G pos h e
    exact ⟨h1, h2.pt, fun _ _ => rfl⟩
  | Or =>
    obtain ⟨h1, h2⟩ := s_or G pos h e
    exact ⟨h1, h2.pt, fun _ _ => rfl⟩
theorem s_two {f : Str} {p pos : Pos} {a b : Expr} {c : E} (G : Gd X S W C F) (iha : ∀ c, cE C a = some c → SE X S W F a c) (ih : ∀ c, cE C b = some c → SE X S W F b c) (h : twoCall C f a b = some c) : SE X S W F (.Call (.Name f p) [a, b] [] pos) c := by
  unfold twoCall at h
  split at h
  · rename_i hc
    simp only [Bool.and_eq_true, decide_eq_true_eq] at hc
    split at h
    · obtain ⟨ts, h1, h⟩ := bindS h
      split at h
      · obtain ⟨ca, h2, rfl⟩ := mapS h
        exact s_isi2 G hc.1.2 hc.1.1 (iha _ h2) h1 (by assumption)
      · cases h
    · obtain ⟨t, h1, h⟩ := bindS h
      obtain ⟨ca, h2, rfl⟩ := mapS h
      exact s_isi1 G hc.1.2 hc.1.1 (iha _ h2) h1
  · split at h
    · rename_i hc
      simp only [Bool.and_eq_true] at hc
      obtain ⟨ca, h1, h⟩ := bindS h
      obtain ⟨cb, h2, h⟩ := bindS h
      have hs : SEs X S W F [a, b] [ca, cb] := .cons (iha _ h1) (.cons (ih _ h2) .nil)
      split at h
      · cases h
        exact s_call G hc.1 hc.2 (by assumption) hs
      · split at h
        · cases h
          exact s_bf (b := .min2) (hv := rfl) G hc.1 (by assumption) (by simp) hs
        · cases h
    · cases h
theorem u_one {es : List Expr} {xs : List E} {k : U1} {c : E} (ih : ∀ e ∈ es, ∀ c, cE C e = some c → SE X S W F e c) (h1 : cEs C es = some xs) (h : oneU k xs = some c) : ∃ e c', es = [e] ∧ SE X S W F e c' ∧ c = .u1 k c' := by
  cases es with
  | nil =>
    have h1 : some [] = some xs := h1
    cases h1; cases h
  | cons e r =>
    rw [cEs] at h1
    obtain ⟨c1, k1, h1⟩ := bindS h1
    obtain ⟨cs, k2, rfl⟩ := mapS h1
    cases r with
    | nil =>
      have k2 : some [] = some cs := k2
      cases k2
      have h : some (E.u1 k c1) = some c := h
      cases h
      exact ⟨e, c1, rfl, ih e (by simp) c1 k1, rfl⟩
    | cons e2 r2 =>
      rw [cEs] at k2
      obtain ⟨c2, k3, k2⟩ := bindS k2
      obtain ⟨cs2, k4, rfl⟩ := mapS k2
      cases h
theorem s_gen {f : Str} {p pos : Pos} {es : List Expr} {c : E} (G : Gd X S W C F) (ih : ∀ e ∈ es, ∀ c, cE C e = some c → SE X S W F e c) (ih2 : ∀ g p2 a p3, es = [.Call (.Name g p2) [a] [] p3] → ∀ c, cE C a = some c → SE X S W F a c) (h : genCall C f es = some c) : SE X S W F (.Call (.Name f p) es [] pos) c := by
  unfold genCall at h
  split at h
  · rename_i hc
    simp only [Bool.and_eq_true, decide_eq_true_eq] at hc
    obtain ⟨⟨rfl, c2⟩, _⟩ := hc
    unfold orSrt at h
    split at h
    · rename_i c' h
      cases h
      rename_i h _
      split at h
      · rename_i g p2 a p3
        obtain ⟨hc, h5⟩ := ifS' h
        simp only [Bool.and_eq_true, decide_eq_true_eq] at hc
        obtain ⟨⟨hg, c4⟩, _⟩ := hc
        obtain ⟨ca, h1, rfl⟩ := mapS h5
        subst hg
        exact s_sset G c2 c4 (ih2 _ _ a _ rfl ca h1)
      · cases h
    · obtain ⟨xs, h1, h⟩ := bindS h
      obtain ⟨e, c', rfl, k1, rfl⟩ := u_one ih h1 h
      exact s_srt G c2 k1
  split at h
  · rename_i hc
    simp only [Bool.and_eq_true] at hc
    obtain ⟨xs, h1, h⟩ := bindS h
    have hs := ses_of es ih h1
    have hl := hs.length
    split at h
    · cases h
      exact s_call G hc.1 hc.2 (by assumption) hs
    · have nn : ∀ {k : Nat}, xs.length = k + 1 → es ≠ [] := fun e z => by subst z; rw [← hl] at e; cases e
      simp only [Bool.and_eq_true, decide_eq_true_eq] at h
      split at h
      · rename_i q; cases h; exact s_bf (b := .len) (hv := rfl) G hc.1 q.1 (nn q.2) hs
      split at h
      · rename_i q; cases h; exact s_bf (b := .tuple) (hv := rfl) G hc.1 q.1 (nn q.2) hs
      split at h
      · rename_i q; cases h; exact s_bf (b := .list) (hv := rfl) G hc.1 q.1 (nn q.2) hs
      split at h
      · rename_i q; cases h; exact s_bf (b := .repr) (hv := rfl) G hc.1 q.1 (nn q.2) hs
      split at h
      · rename_i q; cases h; exact s_bf (b := .int) (hv := rfl) G hc.1 q.1 (nn q.2) hs
      split at h
      · rename_i q; cases h; exact s_bf (b := .all) (hv := rfl) G hc.1 q.1 (nn q.2) hs
      split at h
      · rename_i q; cases h; exact s_bf (b := .min2) (hv := rfl) G hc.1 q.1 (nn q.2) hs
      split at h
      · rename_i q
        obtain ⟨e, c', rfl, k1, rfl⟩ := u_one ih h1 h
        subst q
        exact s_dic G hc.1 k1
      cases h
  · cases h
/-- a walked expression's own -/
theorem i_of {tg iter : Expr} {it : I} (G : Gd X S W C F) (ih : ∀ e, sizeOf e ≤ sizeOf iter → ∀ c, cE C e = some c → SE X S W F e c) (h : mkI C tg iter = some it) :
    PI X tg iter (RI S W (evI F it)) ∧ ∀ x, foldedSetIterable iter X.env x = pure x := by
  have plain : (cE C iter).map I.e = some it → PI X tg iter (RI S W (evI F it)) ∧ ∀ x, foldedSetIterable iter X.env x = pure x := fun h => by
    obtain ⟨c, h1, rfl⟩ := mapS h
    refine ⟨i_e G (ih iter (Nat.le_refl _) c h1), ?_⟩
    cases iter with
    | Set _ _ _ => rw [cE.eq_def] at h1; cases h1
    | _ => intro x; rfl
  unfold mkI at h
  split at h
  · rename_i f p a pos
    split at h
    · rename_i hc
      have h : (cE C a).map I.rng1 = some it := h
      obtain ⟨c, h1, rfl⟩ := mapS h
      unfold rngOk at hc
      simp only [Bool.and_eq_true, decide_eq_true_eq] at hc
      obtain ⟨⟨h2, rfl⟩, _⟩ := hc
      exact ⟨i_rng1 G h2 (ih a (by simp; omega) c h1), fun _ => rfl⟩
    · split at h
      · rename_i hc
        have h : (cE C a).map I.enum = some it := h
        obtain ⟨c, h1, rfl⟩ := mapS h
        unfold enumOk at hc
        simp only [Bool.and_eq_true, decide_eq_true_eq] at hc
        obtain ⟨⟨⟨h2, rfl⟩, h3⟩, _⟩ := hc
        cases tg with
        | Tuple es k tp => exact ⟨i_enum G h2 (ih a (by simp; omega) c h1), fun _ => rfl⟩
        | _ => cases h3
      · exact plain h
  · rename_i f p a b pos
    split at h
    · rename_i hc
      have h : ((cE C a).bind fun a => (cE C b).map fun b => I.rng2 a b) = some it := h
      obtain ⟨c, h1, h⟩ := bindS h
      obtain ⟨d, h2, rfl⟩ := mapS h
      unfold rngOk at hc
      simp only [Bool.and_eq_true, decide_eq_true_eq] at hc
      obtain ⟨⟨h3, rfl⟩, _⟩ := hc
      exact ⟨i_rng2 G h3 (ih a (by simp; omega) c h1) (ih b (by simp; omega) d h2), fun _ => rfl⟩
    · exact plain h
  · exact plain h
end
theorem isRevS_inv {lo hi : Option Expr} {st : Expr} {p2 : Pos} (h : isRevS (.Slice lo hi (some st) p2) = true) : lo = none ∧ hi = none ∧ ∃ k1 q1 q2, st = .UnaryOp .USub (.Constant (.int 1) k1 q1) q2 := by
  unfold isRevS at h
  split at h
  · rename_i e
    cases e
    exact ⟨rfl, rfl, _, _, _, rfl⟩
  · cases h
theorem s_lit {X : Cx} {S : Sig} {W : WX} {C : Cfg} {F : Fns} {v : Const} {k : Nat} {pos : Pos} {w : V} {d : D} (G : Gd X S W C F) (hp : PE X (.Constant v k pos) (tC w)) (hd : ∀ H, Dr S.K H w d) : SE X S W F (.Constant v k pos) (.c d) := by
  have h := s_const (W := W) hp hd
  exact ⟨RE.eq h fun env => by simp only [ev], RT.eq (pt_of G h fun _ => rfl) fun env => by simp only [evT, M.pu_bd, asD, Option.bind], fun _ _ => rfl⟩
theorem se_all {S : Sig} {F : Fns} : ∀ (n : Nat) (e : Expr), sizeOf e < n → ∀ {X : Cx} {W : WX} {C : Cfg} {c : E}, Gd X S W C F → cE C e = some c → SE X S W F e c := by
  intro n
  induction n with
  | zero => intro e h; omega
  | succ n ih =>
    intro e hn X W C c G h
    have mem : ∀ {es : List Expr}, sizeOf es < n + 1 → ∀ e ∈ es, sizeOf e < n := fun {es} hs e he => by
      have := List.sizeOf_lt_of_mem he
      omega
    cases e with
    | Constant v k pos =>
      rw [cE.eq_def] at h
      cases v with
      | int i => cases h; exact s_lit G pe_int fun _ => Dr.int i
      | str i => cases h; exact s_lit G pe_str fun _ => Dr.str i
      | bool i => cases h; exact s_lit G pe_bl fun _ => Dr.bl i
      | none => cases h; exact s_lit G pe_non fun _ => Dr.non
      | _ => cases h
    | Name x pos =>
      rw [cE.eq_def] at h
      exact s_name G h
    | BinOp a op b pos =>
      rw [cE.eq_def] at h
      dsimp only at h
      split at h
      · obtain ⟨ca, h1, h⟩ := bindS h
        obtain ⟨cb, h2, rfl⟩ := mapS h
        simp only [Expr.BinOp.sizeOf_spec] at hn
        exact s_bin G (by assumption) (ih a (by omega) G h1) (ih b (by omega) G h2)
      · cases h
    | UnaryOp op a pos =>
      rw [cE.eq_def] at h
      simp only [Expr.UnaryOp.sizeOf_spec] at hn
      cases op with
      | Not =>
        obtain ⟨ca, h1, rfl⟩ := mapS h
        exact s_not G (ih a (by omega) G h1)
      | USub =>
        obtain ⟨ca, h1, rfl⟩ := mapS h
        exact s_neg G (ih a (by omega) G h1)
      | _ => cases h
    | BoolOp op es pos =>
      rw [cE.eq_def] at h
      simp only [Expr.BoolOp.sizeOf_spec] at hn
      cases op with
      | And =>
        obtain ⟨cs, h1, h⟩ := bindS h
        exact s_bool (op := .And) G (ses_of es (fun e he c hc => ih e (mem (by omega) e he) G hc) h1) h
      | Or =>
        obtain ⟨cs, h1, h⟩ := bindS h
        exact s_bool (op := .Or) G (ses_of es (fun e he c hc => ih e (mem (by omega) e he) G hc) h1) h
    | Compare a ops bs pos =>
      rw [cE.eq_def] at h
      simp only [Expr.Compare.sizeOf_spec] at hn
      cases ops with
      | nil => cases h
      | cons op ops =>
        cases ops with
        | nil =>
          cases bs with
          | nil => cases h
          | cons b bs =>
            cases bs with
            | cons _ _ => cases h
            | nil =>
              dsimp only at h
              split at h
              · cases h
              · obtain ⟨ca, h1, h⟩ := bindS h
                obtain ⟨cb, h2, rfl⟩ := mapS h
                simp at hn
                exact s_cmp G (Bool.eq_false_iff.mpr (by assumption)) (ih a (by omega) G h1) (ih b (by omega) G h2)
        | cons op' ops =>
          cases ops with
          | cons _ _ => cases h
          | nil =>
            cases bs with
            | nil => cases h
            | cons b bs =>
              cases bs with
              | nil => cases h
              | cons c' bs =>
                cases bs with
                | cons _ _ => cases h
                | nil =>
                  dsimp only at h
                  split at h
                  · cases h
                  · obtain ⟨ca, h1, h⟩ := bindS h
                    obtain ⟨cb, h2, h⟩ := bindS h
                    obtain ⟨cc, h3, rfl⟩ := mapS h
                    simp at hn
                    exact s_chain G (Bool.eq_false_iff.mpr (by assumption)) (ih a (by omega) G h1) (ih b (by omega) G h2) (ih c' (by omega) G h3)
    | IfExp t a b pos =>
      rw [cE.eq_def] at h
      simp only [Expr.IfExp.sizeOf_spec] at hn
      obtain ⟨ct, h1, h⟩ := bindS h
      obtain ⟨ca, h2, h⟩ := bindS h
      obtain ⟨cb, h3, rfl⟩ := mapS h
      exact s_ite (ih t (by omega) G h1) (ih a (by omega) G h2) (ih b (by omega) G h3)
    | Tuple es k pos =>
      rw [cE.eq_def] at h
      simp only [Expr.Tuple.sizeOf_spec] at hn
      have ihe : ∀ e ∈ es, ∀ c, cE C e = some c → SE X S W F e c := fun e he c hc => ih e (mem (by omega) e he) G hc
      dsimp only at h
      split at h
      · rename_i cs h1
        cases h
        exact s_tup G (ses_of es ihe h1)
      · obtain ⟨q, h1, rfl⟩ := mapS h
        obtain ⟨es1, e2, p2, rfl, h2, h3⟩ := cEst_inv h1
        refine s_tups G (ses_of es1 (fun e he c hc => ihe e (by simp [he]) c hc) h2) (ih e2 ?_ G h3)
        have := List.sizeOf_lt_of_mem (show Expr.Starred e2 p2 ∈ es1 ++ [.Starred e2 p2] by simp)
        simp only [Expr.Starred.sizeOf_spec] at this
        omega
    | List es pos =>
      rw [cE.eq_def] at h
      simp only [Expr.List.sizeOf_spec] at hn
      obtain ⟨cs, h1, rfl⟩ := mapS h
      exact s_lst G (ses_of es (fun e he c hc => ih e (mem (by omega) e he) G hc) h1)
    | Subscript a b pos =>
      rw [cE.eq_def] at h
      simp only [Expr.Subscript.sizeOf_spec] at hn
      have plain : PlainIx b → ((cE C a).bind fun a => (cE C b).map fun b => E.ix a b) = some c → SE X S W F (.Subscript a b pos) c := fun pl h => by
        obtain ⟨ca, h1, h⟩ := bindS h
        obtain ⟨cb, h2, rfl⟩ := mapS h
        exact s_ix G pl (ih a (by omega) G h1) (ih b (by omega) G h2)
      cases b with
      | Constant cv j p2 =>
        cases cv with
        | str k =>
          cases a with
          | Name x p =>
            obtain ⟨_, h⟩ := ifS' (show (if x ∈ C.gs then (C.var x).map fun i => E.gix i k else none) = some c from h)
            obtain ⟨i, h1, rfl⟩ := mapS h
            exact s_gix G h1
          | _ => exact plain (fun _ _ => rfl) h
        | _ => cases a <;> exact plain (fun _ _ => rfl) h
      | Slice lo hi st p2 =>
        cases st with
        | some st =>
          have h : (if isRevS (.Slice lo hi (some st) p2) then (cE C a).map (E.u1 .rev) else (cE C a).bind fun a => (cE C (.Slice lo hi (some st) p2)).map fun b => E.ix a b) = some c := by cases a <;> exact h
          split at h
          · rename_i hr
            obtain ⟨ca, h1, rfl⟩ := mapS h
            obtain ⟨rfl, rfl, k1, q1, q2, rfl⟩ := isRevS_inv hr
            exact s_rev G (ih a (by omega) G h1)
          · exact plain (fun _ _ => rfl) h
        | none =>
          have h : ((cE C a).bind fun a => (cEO C lo).bind fun lo => (cEO C hi).map fun hi => E.sl a lo hi) = some c := by cases a <;> exact h
          obtain ⟨ca, h1, h⟩ := bindS h
          obtain ⟨cl, h2, h⟩ := bindS h
          obtain ⟨ch, h3, rfl⟩ := mapS h
          simp only [Expr.Slice.sizeOf_spec] at hn
          refine s_sl G (ih a (by omega) G h1) (so_of (C := C) (fun e he c hc => ih e ?_ G hc) h2) (so_of (C := C) (fun e he c hc => ih e ?_ G hc) h3)
          · subst he; simp at hn; omega
          · subst he; simp at hn; omega
      | _ => cases a <;> exact plain (fun _ _ => rfl) h
    | Dict keys es pos =>
      rw [cE.eq_def] at h
      simp only [Expr.Dict.sizeOf_spec] at hn
      obtain ⟨ks, h1, h⟩ := bindS h
      split at h
      · rename_i hc
        obtain ⟨cs, h2, rfl⟩ := mapS h
        exact s_dict G h1 hc.1 hc.2 (ses_of es (fun e he c hc => ih e (mem (by omega) e he) G hc) h2)
      · cases h
    | ListComp elt gs scope pos =>
      cases gs with
      | nil => rw [cE.eq_def] at h; cases h
      | cons g gs =>
        cases gs with
        | cons _ _ => rw [cE] at h; cases h; all_goals simp
        | nil =>
          obtain ⟨tg, iter, ifs, as⟩ := g
          by_cases ha : as = 0
          · subst ha
            have h := cE_lc h
            unfold mkLc at h
            split at h
            · obtain ⟨it, h1, h⟩ := bindS h
              obtain ⟨t, h2, h⟩ := bindS h
              obtain ⟨k, h3, h⟩ := bindS h
              obtain ⟨e, h4, h⟩ := bindS h
              split at h
              · cases h
                simp at hn
                obtain ⟨hi, hs⟩ := i_of (tg := tg) G (fun e he c hc => ih e (by omega) G hc) h1
                exact s_lc G (by assumption) (by assumption) hs hi h2 (fun X' G' => sifs_of (fun e he c hc => ih e (by have := List.sizeOf_lt_of_mem he; omega) G' hc) h3) (fun X' G' => (ih elt (by omega) G' h4).pe)
              · cases h
            · cases h
          · rw [cE] at h; cases h; all_goals simp [ha]
    | Call f es ks pos =>
      cases f with
      | Name f p =>
        cases ks with
        | nil =>
          simp only [Expr.Call.sizeOf_spec] at hn
          rcases cE_call h with ⟨a, b, rfl, h⟩ | ⟨params, body, scope, lpos, rfl, h2⟩ | h
          · exact s_two G (fun c hc => ih a (mem (es := [a, b]) (by omega) a (by simp)) G hc) (fun c hc => ih b (mem (es := [a, b]) (by omega) b (by simp)) G hc) h
          · obtain ⟨hc, h3⟩ := ifS' h2
            simp only [Bool.and_eq_true, decide_eq_true_eq] at hc
            obtain ⟨⟨⟨c1, c2⟩, c3⟩, c4⟩ := hc
            subst c2
            obtain ⟨cb, h1, rfl⟩ := mapS h3
            simp at hn
            exact ⟨G.said c1 params body scope lpos p pos cb c3 c4 fun X' W' G' => (ih body (by omega) (C := C.lamb scope) ⟨G', fun z => by cases z⟩ h1).pe, pt_stuck fun env g => by simp only [evT]; rfl, fun _ _ => rfl⟩
          · exact s_gen G (fun e he c hc => ih e (mem (es := es) (by omega) e he) G hc) (fun g p2 a p3 z c hc => ih a (by subst z; simp at hn; omega) G hc) h
        | cons _ _ => rw [cE] at h; cases h; all_goals simp
      | Attribute o m apos =>
        rw [cE.eq_def] at h
        cases o with
        | Name x p =>
          cases es with
          | nil => cases h
          | cons e es =>
            cases es with
            | cons _ _ => cases h
            | nil =>
              cases ks with
              | cons _ _ => cases h
              | nil =>
                dsimp only at h
                split at h
                · rename_i hc
                  simp only [Bool.and_eq_true, decide_eq_true_eq] at hc
                  obtain ⟨⟨⟨rfl, c2⟩, c3⟩, c4⟩ := hc
                  obtain ⟨d, h1, h⟩ := bindS h
                  split at h
                  · obtain ⟨c, h2, rfl⟩ := mapS h
                    simp at hn
                    exact s_idx G c2 c3 c4 h1 (by assumption) (ih e (by omega) G h2)
                  · cases h
                · cases h
        | Call gf ges gks gp =>
          cases es with
          | nil => cases h
          | cons e es =>
            cases es with
            | nil => cases ks <;> cases h
            | cons e2 es =>
              cases e2 with
              | Constant v2 k2 p2 =>
                cases v2 with
                | none =>
                  cases es with
                  | cons _ _ => cases h
                  | nil =>
                    cases ks with
                    | cons _ _ => cases h
                    | nil =>
                      dsimp only at h
                      split at h
                      · rename_i hc
                        simp only [Bool.and_eq_true, decide_eq_true_eq] at hc
                        obtain ⟨⟨rfl, c3⟩, c4⟩ := hc
                        obtain ⟨ca, h1, h⟩ := bindS h
                        obtain ⟨cb, h2, rfl⟩ := mapS h
                        simp at hn
                        exact s_gt G c3 c4 (ih _ (by simp; omega) G h1) (ih e (by omega) G h2)
                      · cases h
                | _ => cases es <;> cases ks <;> cases h
              | _ => cases es <;> cases ks <;> cases h
        | List ls lp =>
          cases es with
          | nil => cases h
          | cons e es =>
            cases es with
            | cons _ _ => cases h
            | nil =>
              cases ks with
              | cons _ _ => cases h
              | nil =>
                dsimp only at h
                split at h
                · rename_i hc
                  simp only [Bool.and_eq_true, decide_eq_true_eq] at hc
                  obtain ⟨rfl, c4⟩ := hc
                  obtain ⟨cs, h1, h⟩ := bindS h
                  obtain ⟨c, h2, rfl⟩ := mapS h
                  simp at hn
                  exact s_idl G c4 (s_lst G (ses_of ls (fun e he c hc => ih e (by have := List.sizeOf_lt_of_mem he; omega) G hc) h1)) (ih e (by omega) G h2)
                · cases h
        | _ => cases h
      | _ => rw [cE.eq_def] at h; cases h
    | _ => rw [cE.eq_def] at h; cases h
theorem se_of {S : Sig} {F : Fns} {e : Expr} {X : Cx} {W : WX} {C : Cfg} {c : E} (G : Gd X S W C F) (h : cE C e = some c) : SE X S W F e c := se_all (sizeOf e + 1) e (by omega) G h
end PD
set_option Elab.async false
set_option linter.all false
set_option maxRecDepth 100000
set_option autoImplicit false
namespace PD
open PySem PySem.Spec L2

/-! ### statements -/
inductive Sm where
  | asg (t : Tg) (e : E)
  | par (is : List Nat) (es : List E)
  | asgF (i : Nat) (e : E)
  | ap (i : Nat) (e : E)
  | ex (i : Nat) (e : E)
  | ret (e : E)
  | retN
  | iff (t : E) (a b : List Sm)
  | for_ (tg : Tg) (it : I) (body : List Sm)
  | whl (t : E) (body : List Sm)
  | raise (c : Str) (e : E)
  | nop | brk | cont | bad
  | expr (e : E)
  | gput (i : Nat) (k : Str) (e : E)
  | fr (is : List Nat) (s : Sm)
  | parF (i j : Nat) (e : E) (es : List E)
  | newS (i : Nat)
  | ad (i : Nat) (e : E)
  | newD (i : Nat)
  | dp (i : Nat) (k e : E)
  | tryE (i : Nat) (e : E) (c : Str)
inductive Fl where
  | nx (e : Env)
  | rt (d : D)
  | bk (e : Env)
  | ct (e : Env)
/-- an own list becomes data -/
def frz1 (env : Env) (i : Nat) : Env := match env[i]? with
  | some (.ow ds) => env.set i (.fz (.list ds))
  | _ => env
def freezeE (env : Env) : List Nat → Env
  | [] => env
  | i :: is => freezeE (frz1 env i) is
def seqS : Vl → Option (List D)
  | .d (.list xs) => some xs
  | .d (.tuple xs) => some xs
  | _ => none
def seqJ : Vl → Option (List D)
  | .sc ns => some (ns.map .int)
  | .d (.dict kvs) => some (kvs.map (·.1))
  | x => seqS x
/-- what a for walks over: no list of its own -/
def evJ (F : Fns) : I → Env → M (List D)
  | .e e, env => (ev F e env).bd fun x => .ofO (seqJ x)
  | .enum a, env => (ev F a env).bd fun x => (M.ofO (seqS x)).bd fun ds => .pu (enumD 0 ds)
  | it, env => evI F it env
def gpD (s : Option Sl) (k : Str) (d : D) (env : Env) : M Fl := fun g => match s with
  | some .gn => (match gSet k d g with
    | some g' => .ok (.nx env) g'
    | none => .st)
  | _ => .st
/-- a fresh list -/
def evFr (F : Fns) : E → Env → M (List D)
  | .lst es, env => (evs F es env).bd fun xs => (M.ofO (xs.mapM dOf)).bd fun ds => if ds.length ≤ sizeLine then .pu ds else .stuck
  | .bin .Add a b, env => (ev F a env).bd fun x => (ev F b env).bd fun y => .ofO (match asD x, asD y with
    | some (.list i), some (.list j) => if i.length + j.length ≤ sizeLine then some (i ++ j) else none
    | _, _ => none)
  | .lc tg it t e w, env => (evI F it env).bd fun ds => (mapB (fun d => M.calm ((M.ofO (setTg (wipeE env w) tg d)).bd fun env' => (evOT F t env').bd fun k =>
      if k then (ev F e env').bd fun y => (solid y).bd fun y => .pu (some y) else .pu none)) ds).bd fun ys => if ys.length ≤ sizeLine then .pu ys else .stuck
  | _, _ => .stuck
def forB (tg : Tg) (body : Env → M Fl) : List D → Env → M Fl
  | [], env => .pu (.nx env)
  | d :: ds, env => (M.ofO (setTg env tg d)).bd fun env' => (body env').bd fun r => match r with
    | .nx e => forB tg body ds e
    | .ct e => forB tg body ds e
    | .bk e => .pu (.nx e)
    | .rt d => .pu (.rt d)
def whB (test : Env → M Bool) (body : Env → M Fl) : Nat → Env → M Fl
  | 0, _ => .stuck
  | n + 1, env => (test env).bd fun k => if k then (body env).bd fun r => (match r with
    | .nx e => whB test body n e
    | .ct e => whB test body n e
    | .bk e => .pu (.nx e)
    | .rt d => .pu (.rt d)) else .pu (.nx env)
/-- a tuple more in a set -/
def addS (ds : List D) (d : D) : Option (List D) := if (tkey d).isSome = true ∧ ds.length + 1 < 64 then some (if (ds.any fun q => PyData.eqv q d) = true then ds else ds ++ [d]) else none
/-- a key of a dict of tuples, put or put anew -/
def putS (kvs : List (D × D)) (d v : D) : Option (List (D × D)) := if (tkey d).isSome = true ∧ kvs.length < sizeLine then some (dPut d v kvs) else none
/-- a refusal of that class ends the def with what it tells -/
def M.tryC {α : Type} (m : M α) (c : Str) (env : Env) : M Fl := fun g => match m g with
  | .ok _ g' => .ok (.nx env) g'
  | .er c' d g' => if c' = c then .ok (.rt d) g' else .st
  | .st => .st
mutual
def exS (F : Fns) (n : Nat) : Sm → Env → M Fl
  | .asg t e, env => (ev F e env).bd fun x => (solid x).bd fun d => (M.ofO (setTg env t d)).bd fun env' => .pu (.nx env')
  | .par is es, env => (evs F es env).bd fun xs => (M.ofO (xs.mapM dOf)).bd fun ds => (M.ofO (setTgs env is ds)).bd fun env' => .pu (.nx env')
  | .asgF i e, env => (evFr F e env).bd fun ds => if i < env.length then .pu (.nx (env.set i (.ow ds))) else .stuck
  | .ap i e, env => (match env[i]? with
    | some (.ow ds) => (ev F e env).bd fun x => (solid x).bd fun d => if ds.length < sizeLine then .pu (.nx (env.set i (.ow (ds ++ [d])))) else .stuck
    | _ => .stuck)
  | .ex i e, env => (match env[i]? with
    | some (.ow ds) => (ev F e env).bd fun x => (M.ofO (lsOf x)).bd fun es => if ds.length + es.length ≤ sizeLine then .pu (.nx (env.set i (.ow (ds ++ es)))) else .stuck
    | _ => .stuck)
  | .ret e, env => (ev F e env).bd fun x => (solid x).bd fun d => .pu (.rt d)
  | .retN, _ => .pu (.rt .none)
  | .iff t a b, env => (evT F t env).bd fun k => if k then exSs F n a env else exSs F n b env
  | .for_ tg it body, env => (evJ F it env).bd fun ds => forB tg (exSs F n body) ds env
  | .whl t body, env => whB (evT F t) (exSs F n body) n env
  | .raise c e, env => (ev F e env).bd fun x => (solid x).bd fun d => M.raise c d
  | .nop, env => .pu (.nx env)
  | .brk, env => .pu (.bk env)
  | .cont, env => .pu (.ct env)
  | .bad, _ => .stuck
  | .expr e, env => (ev F e env).bd fun _ => .pu (.nx env)
  | .gput i k e, env => (ev F e env).bd fun x => (solid x).bd fun d => gpD env[i]? k d env
  | .fr is s, env => exS F n s (freezeE env is)
  | .newS i, env => if i < env.length then .pu (.nx (env.set i (.oc (.set [])))) else .stuck
  | .ad i e, env => (match env[i]? with
    | some (.oc (.set ds)) => (ev F e env).bd fun x => (solid x).bd fun d => (M.ofO (addS ds d)).bd fun es => .pu (.nx (env.set i (.oc (.set es))))
    | _ => .stuck)
  | .newD i, env => if i < env.length then .pu (.nx (env.set i (.oc (.dct [])))) else .stuck
  | .dp i k e, env => (ev F e env).bd fun x => (solid x).bd fun v => (match env[i]? with
    | some (.oc (.dct kvs)) => (ev F k env).bd fun y => (solid y).bd fun d => (M.ofO (putS kvs d v)).bd fun r => .pu (.nx (env.set i (.oc (.dct r))))
    | _ => .stuck)
  | .tryE i e c, env => if i < env.length then M.tryC (ev F e env) c env else .stuck
  | .parF i j e es, env => (ev F e env).bd fun x => (solid x).bd fun d => (evs F es env).bd fun xs => (M.ofO (xs.mapM dOf)).bd fun ds => if ds.length ≤ sizeLine ∧ i < env.length ∧ j < env.length ∧ i ≠ j then .pu (.nx ((env.set i (.fz d)).set j (.ow ds))) else .stuck
termination_by structural s => s
def exSs (F : Fns) (n : Nat) : List Sm → Env → M Fl
  | [], env => .pu (.nx env)
  | s :: r, env => (exS F n s env).bd fun x => match x with
    | .nx e => exSs F n r e
    | .rt d => .pu (.rt d)
    | .bk e => .pu (.bk e)
    | .ct e => .pu (.ct e)
termination_by structural s => s
end

/-! ### what is wanted of a statement -/
def PstS (S : Sig) (W : WX) (He H0e Hs : Hp) (D : Ends) : Rs Fl → Prop
  | .ok (.nx env') g' => ∀ σ' H0' H', Rl S env' g' σ' He H0e H0' H' → Same Hs H0' → D.nx σ' H'
  | .ok (.bk env') g' => ∀ σ' H0' H', Rl S env' g' σ' He H0e H0' H' → Same Hs H0' → D.bk σ' H'
  | .ok (.ct env') g' => ∀ σ' H0' H', Rl S env' g' σ' He H0e H0' H' → Same Hs H0' → D.ct σ' H'
  | .ok (.rt d) g' => ∀ v H0' H', Aft S g' H0e He H0' H' → Dr S.K H0' v d → D.rt v H'
  | .er c d g' => ∀ dx v σ H0' H', Aft S g' H0e He H0' H' → H' dx = some (.xd [(S.at_ c, v)]) → Dr S.K H0' v d → W (.ref (S.cl c)) (some dx) σ H'
  | .st => False
def RS (S : Sig) (W : WX) (f : Env → M Fl) : TS := fun D σ H => ∃ env g He H0e H0, Rl S env g σ He H0e H0 H ∧ PstS S W He H0e H0 D (f env g)
section
variable {S : Sig} {W : WX} {env : Env} {g g' : Gen} {σ : L2.St} {He H0e H0 H H0' H' Hs Hs' : Hp} {D : Ends}
theorem Rl.aft (R : Rl S env g σ He H0e H0 H) (a : Aft S g' H0 H H0' H') : Aft S g' H0e He H0' H' := ⟨R.stp.trans a.stp, a.sub, a.gen, a.tabs⟩
theorem PstS.mono {r : Rs Fl} (h : PstS S W He H0e Hs D r) (s : Same Hs Hs') : PstS S W He H0e Hs' D r := by
  unfold PstS at h ⊢
  split at h
  · exact fun σ' H0' H' R q => h σ' H0' H' R (s.trans q)
  · exact fun σ' H0' H' R q => h σ' H0' H' R (s.trans q)
  · exact fun σ' H0' H' R q => h σ' H0' H' R (s.trans q)
  · exact h
  · exact h
  · exact h
theorem PstS.bd {α β : Type} {rel : Hp → Hp → β → α → Prop} {Kt : β → Hp → Prop} {m : M α} {k : α → M Fl} (R : Rl S env g σ He H0e H0 H) (h : PstS S W He H0e Hs D ((m.bd k) g))
    (hk : ∀ x g' v H0' H', Aft S g' H0 H H0' H' → rel H0' H' v x → PstS S W He H0e Hs D (k x g') → Kt v H') : Pst S W σ H0 H rel Kt (m g) := by
  unfold M.bd at h
  cases e : m g with
  | st => rw [e] at h; exact h
  | er c d g' => rw [e] at h; exact fun dx v H0' H' a q1 q2 => h dx v σ H0' H' (R.aft a) q1 q2
  | ok x g' => rw [e] at h; exact fun v H0' H' a r => hk x g' v H0' H' a r h
/-- a statement, and what comes behind it -/
theorem PstS.sq {D' : Ends} {k : Fl → M Fl} {m : M Fl} (h : PstS S W He H0e Hs D ((m.bd k) g))
    (hk : ∀ x g', PstS S W He H0e Hs D (k x g') → PstS S W He H0e Hs' D' (.ok x g')) : PstS S W He H0e Hs' D' (m g) := by
  unfold M.bd at h
  cases e : m g with
  | st => rw [e] at h; exact h
  | er c d g' => rw [e] at h; exact h
  | ok x g' => rw [e] at h; exact hk x g' h
theorem Rl.frz (R : Rl S env g σ He H0e H0 H) (i : Nat) : ∃ H0', Rl S (frz1 env i) g σ He H0e H0' H ∧ Same H0 H0' := by
  unfold frz1
  split
  · rename_i ds e
    obtain ⟨o, e1, a, xs, e2, e3, e4, e5, e6⟩ := R.slots i _ e
    subst e2
    have sm : Same H0 (upd H0 a (.lst xs)) := same_new e4
    have hi : i < env.length := (List.getElem?_eq_some_iff.mp e).1
    refine ⟨upd H0 a (.lst xs), ⟨⟨R.stp.s0.trans sm, R.stp.fr, R.stp.th, fun b q => ?_, fun b ps q => ?_⟩, fun b u q => ?_, ?_, ?_, R.tabs, fun b ps q => ?_, fun j s q => ?_, fun j k b hne h1 h2 h3 => ?_⟩, sm⟩
    · by_cases z : b = a
      · subst z; exact .inr e5
      · rw [upd_ne z] at q; exact R.stp.fresh b q
    · by_cases z : b = a
      · subst z; rw [upd_same] at q; cases q
      · rw [upd_ne z] at q; exact R.stp.nt b ps q
    · by_cases z : b = a
      · subst z; rw [upd_same] at q; rw [e3]; exact q
      · rw [upd_ne z] at q; exact R.sub b u q
    · intro q hq
      obtain ⟨gl, k1, k2⟩ := R.gen q hq
      exact ⟨gl, k1, sm _ _ k2⟩
    · intro p hp
      rw [upd_ne (fun z => R.gen.nlst e3 (by rw [hp, z]))]; exact R.ngen p hp
    · by_cases z : b = a
      · subst z; rw [upd_same] at q; cases q
      · rw [upd_ne z] at q; exact R.ntbl b ps q
    · by_cases z : j = i
      · subst z
        rw [List.getElem?_set_self hi] at q
        cases q
        exact ⟨_, e1, _, rfl, Dr.lst upd_same (e6.same sm)⟩
      · rw [List.getElem?_set_ne (Ne.symm z)] at q
        obtain ⟨o, k1, k2⟩ := R.slots j s q
        refine ⟨o, k1, ?_⟩
        cases s with
        | un => trivial
        | fz d => obtain ⟨v, l1, l2⟩ := k2; exact ⟨v, l1, l2.same sm⟩
        | gn => exact k2
        | sc ns => obtain ⟨b, l1, l2⟩ := k2; exact ⟨b, l1, sqL_same sm l2⟩
        | ow es =>
          obtain ⟨b, ys, l1, l2, l3, l4, l5⟩ := k2
          subst l1
          have nb : b ≠ a := fun z2 => by
            subst z2
            exact R.own i j b (Ne.symm z) (.inl ⟨_, e⟩) (.inl ⟨_, q⟩) e1 k1
          exact ⟨b, ys, rfl, l2, by rw [upd_ne nb]; exact l3, l4, l5.same sm⟩
        | oc c =>
          obtain ⟨b, u, l1, l2, l3, l4, l5⟩ := k2
          subst l1
          have nb : b ≠ a := fun z2 => by
            subst z2
            exact R.own i j b (Ne.symm z) (.inl ⟨_, e⟩) (.inr ⟨_, q⟩) e1 k1
          exact ⟨b, u, rfl, l2, by rw [upd_ne nb]; exact l3, l4, l5.same sm⟩
    · have nj : ∀ {m : Nat}, Own (env.set i (.fz (.list ds))) m → Own env m := fun {m} q => by
        unfold Own at q ⊢
        by_cases hm : m = i
        · subst hm
          rw [List.getElem?_set_self hi] at q
          rcases q with ⟨_, q⟩ | ⟨_, q⟩ <;> cases q
        · rw [List.getElem?_set_ne (Ne.symm hm)] at q; exact q
      exact R.own j k b hne (nj h1) (nj h2) h3
  · exact ⟨H0, R, Same.refl _⟩
theorem Rl.freeze : ∀ (is : List Nat) {env : Env} {H0 : Hp}, Rl S env g σ He H0e H0 H → ∃ H0', Rl S (freezeE env is) g σ He H0e H0' H ∧ Same H0 H0'
  | [], _, _, R => ⟨_, R, Same.refl _⟩
  | i :: is, _, _, R => by
    obtain ⟨H1, R1, s1⟩ := R.frz i
    obtain ⟨H2, R2, s2⟩ := Rl.freeze is R1
    exact ⟨H2, R2, s1.trans s2⟩
end
end PD
set_option Elab.async false
set_option linter.all false
set_option maxRecDepth 100000
set_option autoImplicit false
namespace PD
open PySem PySem.Spec L2

section
variable {X : Cx} {S : Sig} {W : WX} {C : Cfg} {F : Fns} {pos : Pos} {N : Nat}
abbrev SS (X : Cx) (S : Sig) (W : WX) (F : Fns) (N : Nat) (st : Stmt) (s : Sm) : Prop := PS X st (RS S W (exS F N s))
abbrev SSs (X : Cx) (S : Sig) (W : WX) (F : Fns) (N : Nat) (st : List Stmt) (s : List Sm) : Prop := PSs X st (RS S W (exSs F N s))
theorem RSeq {st : Stmt} {f f' : Env → M Fl} (h : PS X st (RS S W f)) (q : ∀ env, f' env = f env) : PS X st (RS S W f') := by
  have : f' = f := funext q
  rw [this]; exact h
/-- target = value -/
theorem st_asg {tg e : Expr} {t : Tg} {c : E} (he : SE X S W F e c) (hg : PG X tg (gD S t)) (hs : swapsWithSole [tg] e pos.line X.env = pure false) (hw : swappedStores [tg] e X.env = pure none)
    (h1 : (assignEach [tg] X.env).map (·.2) = [assign tg X.env]) : SS X S W F N (.Assign [tg] e pos) (.asg t c) := by
  refine PS.weak (ps_asg he.pe hg hs hw h1) fun D σ H q => ?_
  obtain ⟨env, g, He, H0e, H0, R, q⟩ := q
  simp only [exS] at q
  refine ⟨env, g, He, H0e, H0, R, PstS.bd R q fun x g1 v H1 H1' a1 r1 h1 => ?_⟩
  have R1 := R.step a1
  cases x with
  | gn => exact h1.elim
  | sc _ => exact h1.elim
  | co _ => exact h1.elim
  | bo ds => exact h1.elim
  | d d =>
    have h1 : PstS S W He H0e H0 D (((M.ofO (setTg env t d)).bd fun env' => M.pu (.nx env')) g1) := h1
    cases e1 : setTg env t d with
    | none => rw [e1] at h1; exact h1.elim
    | some env' =>
      rw [e1] at h1
      exact ⟨env, g1, He, H0e, H1, d, env', R1, r1, e1, fun σ' _ _ R' => h1 σ' H1 H1' R' a1.stp.s0⟩
/-- name = [.. for ..] on one line -/
theorem st_lcset {elt tg iter : Expr} {ifs : List Expr} {scope : Scope} {lp py : Pos} {x : Str} {i : Nat} {t : Tg} {it : I} {k : Option E} {e : E} (G : Gd X S W C F) (hx : C.slot x = some i)
    (hl : X.env.scope.names.lookup x = some .local) (hsw : swapsWith (.ListComp elt [⟨tg, iter, ifs, 0⟩] scope lp) (some (.Name x py)) pos.line X.env = pure true)
    (hb : blkC C.N C.sc scope (ownOf C.N scope) = true) (hw : (tgIx t).all (fun i => decide (i ∈ (ownOf C.N scope).map Prod.snd)) = true)
    (hs : ∀ x, foldedSetIterable iter X.env x = pure x)
    (hi : PI X tg iter (RI S W (evI F it))) (ht : cTg (C.tgt scope) tg = some t)
    (hk : ∀ X', Gd X' S W0 (C.inn scope) F → PTs X' ifs (RT S W0 (evOT F k)))
    (he : ∀ X', Gd X' S W0 (C.inn scope) F → PE X' elt (RE S W0 (ev F e))) :
    SS X S W F N (.Assign [.Name x py] (.ListComp elt [⟨tg, iter, ifs, 0⟩] scope lp) pos) (.asg (.n i) (.lc t it k e ((ownOf C.N scope).map Prod.snd))) := by
  have nd : X.N.Nodup := by rw [G.hN]; exact G.nd
  have hx' : ixOf C.N x = some i := by
    unfold Cfg.slot at hx
    split at hx
    · exact hx
    · cases hx
  refine PS.weak (ps_setLc (i := i) G.calm nd (by rw [G.hN]; exact ixOf_get hx') hl hsw hi (own := ownOf C.N scope) (by rw [G.hN, G.hsc]; exact blkOk_by hb)
    (fun s H Ca cl fp => g_tg (S := S) nd G.calm G.hK (StOk.blk G hb s H Ca cl fp) ht)
    (fun s H Ca cl fp => hk _ (G.blk s H Ca cl fp)) (fun s H Ca cl fp => he _ (G.blk s H Ca cl fp)) hs) fun D σ H q => ?_
  obtain ⟨env, g, He, H0e, H0, R, q⟩ := q
  simp only [exS] at q
  -- as a value
  have q2 : Pst S W σ H0 H (VR S) (fun v H' => D.nx (σ.set i (some v)) H') (ev F (.lc t it k e ((ownOf C.N scope).map Prod.snd)) env g) := by
    refine PstS.bd R q fun x g1 v H1 H1' a1 r1 h1 => ?_
    cases x with
    | gn => exact h1.elim
    | sc _ => exact h1.elim
    | co _ => exact h1.elim
    | bo ds => exact h1.elim
    | d d =>
      have h1 : PstS S W He H0e H0 D (((M.ofO (if i < env.length then some (env.set i (.fz d)) else none)).bd fun env' => M.pu (.nx env')) g1) := h1
      split at h1
      · exact h1 _ H1 H1' ((R.step a1).set (by assumption) r1) a1.stp.s0
      · exact h1.elim
  simp only [ev] at q2
  refine ⟨env, g, He, H0e, H0, R, Pst.bd q2 fun ds g1 J H1 H1' a1 r1 h1 => ?_⟩
  obtain ⟨o, wk, hold⟩ := r1
  exact lc_read (R.step a1) wk hold (fun i hi => by
    have := List.all_eq_true.mp hw i hi
    simpa using this) h1
/-- return e -/
theorem st_ret {e : Expr} {c : E} (he : SE X S W F e c) : SS X S W F N (.Return (some e) pos) (.ret c) := by
  refine PS.weak (ps_ret he.pe) fun D σ H q => ?_
  obtain ⟨env, g, He, H0e, H0, R, q⟩ := q
  simp only [exS] at q
  refine ⟨env, g, He, H0e, H0, R, PstS.bd R q fun x g1 v H1 H1' a1 r1 h1 => ?_⟩
  cases x with
  | gn => exact h1.elim
  | sc _ => exact h1.elim
  | co _ => exact h1.elim
  | bo ds => exact h1.elim
  | d d => exact h1 v H1 H1' (R.aft a1) r1
theorem st_retN : SS X S W F N (.Return none pos) .retN := PS.weak ps_retN fun D σ H q => by
  obtain ⟨env, g, He, H0e, H0, R, q⟩ := q
  simp only [exS] at q
  exact q .non H0 H (R.aft (Aft.refl R)) .non
theorem st_nop {st : Stmt} (h : PS X st tNext) : SS X S W F N st .nop := PS.weak h fun D σ H q => by
  obtain ⟨env, g, He, H0e, H0, R, q⟩ := q
  simp only [exS] at q
  exact q σ H0 H R (Same.refl _)
theorem st_bad {st : Stmt} : SS X S W F N st .bad := ⟨fun pins s σ H D I q => by
  obtain ⟨env, g, He, H0e, H0, R, q⟩ := q
  simp only [exS] at q
  exact q.elim⟩
theorem st_brk : SS X S W F N (.Break pos) .brk := PS.weak ps_break fun D σ H q => by
  obtain ⟨env, g, He, H0e, H0, R, q⟩ := q
  simp only [exS] at q
  exact q σ H0 H R (Same.refl _)
theorem st_cont : SS X S W F N (.Continue pos) .cont := PS.weak ps_continue fun D σ H q => by
  obtain ⟨env, g, He, H0e, H0, R, q⟩ := q
  simp only [exS] at q
  exact q σ H0 H R (Same.refl _)
theorem st_expr {e : Expr} {c : E} (he : SE X S W F e c) (hs : swapsWith e none pos.line X.env = pure false) : SS X S W F N (.Expr e pos) (.expr c) := by
  refine PS.weak (ps_expr he.pe hs) fun D σ H q => ?_
  obtain ⟨env, g, He, H0e, H0, R, q⟩ := q
  simp only [exS] at q
  exact ⟨env, g, He, H0e, H0, R, PstS.bd R q fun x g1 v H1 H1' a1 r1 h1 => h1 σ H1 H1' (R.step a1) a1.stp.s0⟩
theorem st_if {t : Expr} {a b : List Stmt} {ct : E} {ca cb : List Sm} (ht : SE X S W F t ct) (ha : SSs X S W F N a ca) (hb : SSs X S W F N b cb) : SS X S W F N (.If t a b pos) (.iff ct ca cb) := by
  refine PS.weak (ps_if ht.pt ha hb) fun D σ H q => ?_
  obtain ⟨env, g, He, H0e, H0, R, q⟩ := q
  simp only [exS] at q
  refine ⟨env, g, He, H0e, H0, R, PstS.bd R q fun x g1 v H1 H1' a1 r1 h1 => ?_⟩
  have r1 : v = x := r1
  subst r1
  have h1 := h1.mono a1.stp.s0
  cases v with
  | true => exact iteT ⟨env, g1, He, H0e, H1, R.step a1, h1⟩
  | false => exact iteF ⟨env, g1, He, H0e, H1, R.step a1, h1⟩
theorem st_fr {st : Stmt} {is : List Nat} {s : Sm} (h : SS X S W F N st s) : SS X S W F N st (.fr is s) := PS.weak h fun D σ H q => by
  obtain ⟨env, g, He, H0e, H0, R, q⟩ := q
  simp only [exS] at q
  obtain ⟨H1, R1, s1⟩ := R.freeze is
  exact ⟨_, g, He, H0e, H1, R1, q.mono s1⟩
theorem sts_nil : SSs X S W F N [] [] := PSs.weak pss_nil fun D σ H q => by
  obtain ⟨env, g, He, H0e, H0, R, q⟩ := q
  simp only [exSs] at q
  exact q σ H0 H R (Same.refl _)
theorem sts_cons {st : Stmt} {r : List Stmt} {s : Sm} {ss : List Sm} (h : SS X S W F N st s) (hr : SSs X S W F N r ss) : SSs X S W F N (st :: r) (s :: ss) := by
  refine PSs.weak (pss_cons h hr) fun D σ H q => ?_
  obtain ⟨env, g, He, H0e, H0, R, q⟩ := q
  simp only [exSs] at q
  refine ⟨env, g, He, H0e, H0, R, PstS.sq q fun x g1 h1 => ?_⟩
  cases x with
  | nx e => exact fun σ' H0' H' R' s' => ⟨e, g1, He, H0e, H0', R', h1.mono s'⟩
  | rt d => exact h1
  | bk e => exact h1
  | ct e => exact h1
/-- while -/
theorem st_whl {t : Expr} {b : List Stmt} {ct : E} {cb : List Sm} (G : Gd X S W C F) (ht : SE X S W F t ct) (hb : SSs X S W F N b cb) : SS X S W F N (.While t b [] pos) (.whl ct cb) := by
  refine PS.weak (ps_while G.own ht.pt hb) fun D σ H q => ?_
  obtain ⟨env, g, He, H0e, H0, R, q⟩ := q
  simp only [exS] at q
  refine ⟨fun m σ H => ∃ env g H1, Rl S env g σ He H0e H1 H ∧ Same H0 H1 ∧ PstS S W He H0e H0 D (whB (evT F ct) (exSs F N cb) m env g), ⟨N, env, g, H0, R, Same.refl _, q⟩, ?_⟩
  rintro m σ1 H1' ⟨env1, g1, H1, R1, s1, q1⟩
  cases m with
  | zero => exact q1.elim
  | succ m =>
    have q1 : PstS S W He H0e H0 D (((evT F ct env1).bd fun k => if k then (exSs F N cb env1).bd fun r => (match r with
      | .nx e => whB (evT F ct) (exSs F N cb) m e
      | .ct e => whB (evT F ct) (exSs F N cb) m e
      | .bk e => .pu (.nx e)
      | .rt d => .pu (.rt d)) else .pu (.nx env1)) g1) := q1
    refine ⟨env1, g1, He, H0e, H1, R1, PstS.bd R1 q1 fun x g2 v H2 H2' a2 r2 h2 => ?_⟩
    have r2 : v = x := r2
    subst r2
    have R2 := R1.step a2
    have s2 := s1.trans a2.stp.s0
    cases v with
    | false => exact iteF (h2 σ1 H2 H2' R2 s2)
    | true =>
      refine iteT ⟨fun σ' H' => ∃ env g H1, Rl S env g σ' He H0e H1 H' ∧ Same H0 H1 ∧ PstS S W He H0e H0 D (whB (evT F ct) (exSs F N cb) m env g), fun σ' H' n => ⟨m, by omega, n⟩, env1, g2, He, H0e, H2, R2, ?_⟩
      have h2 : PstS S W He H0e H0 D (((exSs F N cb env1).bd fun r => (match r with
      | .nx e => whB (evT F ct) (exSs F N cb) m e
      | .ct e => whB (evT F ct) (exSs F N cb) m e
      | .bk e => .pu (.nx e)
      | .rt d => .pu (.rt d))) g2) := h2
      refine PstS.sq h2 fun x g3 h3 => ?_
      cases x with
      | nx e => exact fun σ' H0' H' R' s' => ⟨e, g3, H0', R', s2.trans s', h3⟩
      | ct e => exact fun σ' H0' H' R' s' => ⟨e, g3, H0', R', s2.trans s', h3⟩
      | bk e => exact fun σ' H0' H' R' s' => h3 σ' H0' H' R' (s2.trans s')
      | rt d => exact h3
/-! ### for -/
def relJ (S : Sig) : Hp → Hp → It → List PD.D → Prop := fun H0 _ J ds => WkD S J none H0 ds
abbrev RJ (S : Sig) (W : WX) (f : Env → M (List PD.D)) : TI := RX S W (relJ S) f
/-- what a range walks: nothing borrowed -/
theorem j_e {tg l : Expr} {c : E} (G : Gd X S W C F) (h : SE X S W F l c) : PI X tg l (RJ S W (evJ F (.e c))) := by
  refine PI.weak (pi_seq h.pe) fun σ H R q => ?_
  unfold evJ at q
  obtain ⟨env, g, He, H0e, H0, R0, q⟩ := q
  refine ⟨env, g, He, H0e, H0, R0, Pst.bd q fun x g1 v H1 H1' a1 r1 h1 => ?_⟩
  rw [G.hK]
  have R1 := R0.step a1
  cases x with
  | gn => exact h1.elim
  | sc ns =>
    obtain ⟨a, rfl, e1⟩ := r1
    exact ⟨a, rfl, .inl ⟨_, sqL_same a1.sub e1, h1 _ H1 H1' (Aft.refl R1) (wk_sq e1 (int_all ns))⟩⟩
  | co _ => exact h1.elim
  | bo ds => exact h1.elim
  | d d =>
    cases d with
    | list ds =>
      obtain ⟨a, xs, rfl, e1, e2⟩ := Dr.lst_inv r1
      exact ⟨a, rfl, .inl ⟨xs, SqL.of (a1.sub _ _ e1), h1 _ H1 H1' (Aft.refl R1) (wk_lst0 e1 e2)⟩⟩
    | tuple ds =>
      obtain ⟨a, xs, rfl, e1, e2⟩ := Dr.tup_inv r1
      exact ⟨a, rfl, .inr (.inl ⟨xs, sqT_same a1.sub e1, h1 _ H1 H1' (Aft.refl R1) (wk_tup e1 e2)⟩)⟩
    | dict kds =>
      cases r1 with
      | dct e1 e2 =>
        have hl := e2.length
        rw [List.length_map] at hl
        refine ⟨_, rfl, .inr (.inr ⟨_, _, a1.sub _ _ e1, h1 _ H1 H1' (Aft.refl R1) ?_⟩)⟩
        rw [dct_keys hl]
        exact wk_keys e1
    | _ => exact h1.elim
theorem j_enum {a : Expr} {elts : List Expr} {kk : Nat} {tpos p pos : Pos} {c : E} (G : Gd X S W C F) (hg : glB C.sc "enumerate" = true) (h : SE X S W F a c) : PI X (.Tuple elts kk tpos) (.Call (.Name "enumerate" p) [a] [] pos) (RJ S W (evJ F (.enum c))) := by
  have hst : starEach [a] X.env = [(false, eval a X.env)] := h.ns _ _
  refine PI.weak (pi_enumA (gl_of G.hsc hg) (G.blt _ (by simp [bltNames])) (pa_cons h.pe pa_nil (h.ns _ _)) hst) fun σ H R q => ?_
  unfold evJ at q
  obtain ⟨env, g, He, H0e, H0, R0, q⟩ := q
  refine ⟨env, g, He, H0e, H0, R0, Pst.bd q fun x g1 v H1 H1' a1 r1 h1 => ?_⟩
  rw [G.hK]
  have R1 := R0.step a1
  cases x with
  | gn => exact h1.elim
  | sc _ => exact h1.elim
  | co _ => exact h1.elim
  | bo ds => exact h1.elim
  | d d =>
    cases d with
    | list ds =>
      obtain ⟨b, xs, rfl, e1, e2⟩ := Dr.lst_inv r1
      exact ⟨b, rfl, .inl ⟨xs, SqL.of (a1.sub _ _ e1), h1 _ H1 H1' (Aft.refl R1) (wk_enumL0 e1 e2)⟩⟩
    | tuple ds =>
      obtain ⟨b, xs, rfl, e1, e2⟩ := Dr.tup_inv r1
      exact ⟨b, rfl, .inr ⟨xs, sqT_same a1.sub e1, h1 _ H1 H1' (Aft.refl R1) (wk_enumT e1 e2)⟩⟩
    | _ => exact h1.elim
theorem j_rng1 {tg a : Expr} {p pos : Pos} {c : E} (G : Gd X S W C F) (hg : glB C.sc "range" = true) (h : SE X S W F a c) : PI X tg (.Call (.Name "range" p) [a] [] pos) (RJ S W (evJ F (.rng1 c))) := by
  have hst : starEach [a] X.env = [(false, eval a X.env)] := h.ns _ _
  refine PI.weak (pi_range1 (gl_of G.hsc hg) (G.blt _ (by simp [bltNames])) (pa_cons h.pe pa_nil (h.ns _ _)) hst) fun σ H R q => ?_
  unfold evJ at q
  simp only [evI] at q
  obtain ⟨env, g, He, H0e, H0, R0, q⟩ := q
  refine ⟨env, g, He, H0e, H0, R0, Pst.bd q fun x g1 v H1 H1' a1 r1 h1 => ?_⟩
  have R1 := R0.step a1
  obtain ⟨j, rfl, rfl, h3⟩ := toInt_bd r1 h1
  clear h1
  unfold rngD at h3
  split at h3
  · rename_i hb
    refine ⟨j, rfl, hb.2.2.1, hb.2.2.2, ?_⟩
    have e : (j - 0).toNat = j.toNat := by omega
    rw [e] at h3
    exact h3 _ H1 H1' (Aft.refl R1) wk_rng
  · exact h3.elim
theorem j_rng2 {tg a b : Expr} {p pos : Pos} {c d : E} (G : Gd X S W C F) (hg : glB C.sc "range" = true) (h : SE X S W F a c) (h' : SE X S W F b d) : PI X tg (.Call (.Name "range" p) [a, b] [] pos) (RJ S W (evJ F (.rng2 c d))) := by
  have hst2 : starEach [b] X.env = [(false, eval b X.env)] := h'.ns _ _
  have hst : starEach [a, b] X.env = [(false, eval a X.env), (false, eval b X.env)] := by rw [h.ns, hst2]
  refine PI.weak (pi_range2 (gl_of G.hsc hg) (G.blt _ (by simp [bltNames])) (pa_cons h.pe (pa_cons h'.pe pa_nil (h'.ns _ _)) (h.ns _ _)) hst hst2) fun σ H R q => ?_
  unfold evJ at q
  simp only [evI] at q
  obtain ⟨env, g, He, H0e, H0, R0, q⟩ := q
  refine ⟨env, g, He, H0e, H0, R0, Pst.bd q fun x g1 v H1 H1' a1 r1 h1 => ?_⟩
  have R1 := R0.step a1
  refine ⟨env, g1, He, H0e, H1, R1, Pst.bd h1 fun y g2 w H2 H2' a2 r2 h2 => ?_⟩
  have R2 := R1.step a2
  obtain ⟨i, rfl, rfl, h3⟩ := toInt_bd (r1.step R1.gen a2) h2
  clear h2
  obtain ⟨j, rfl, rfl, h4⟩ := toInt_bd r2 h3
  clear h3
  unfold rngD at h4
  split at h4
  · rename_i hb
    exact ⟨i, j, rfl, hb, h4 _ H2 H2' (Aft.refl R2) wk_rng⟩
  · exact h4.elim
theorem st_for {tg iter : Expr} {b : List Stmt} {t : Tg} {it : I} {cb : List Sm} (G : Gd X S W C F) (hi : PI X tg iter (RJ S W (evJ F it))) (hg : PG X tg (gD S t)) (hb : SSs X S W F N b cb)
    (hs : ∀ x, foldedSetIterable iter X.env x = pure x) : SS X S W F N (.For tg iter b [] pos) (.for_ t it cb) := by
  refine PS.weak (ps_for G.own G.calm hi hg hb (by first | exact hs | skip)) fun D σ H q => ?_
  obtain ⟨env, g, He, H0e, H0, R, q⟩ := q
  simp only [exS] at q
  refine ⟨env, g, He, H0e, H0, R, PstS.bd R q fun ds g1 J H1 H1' a1 wk h1 => ?_⟩
  have wk : WkD S J none H1 ds := wk
  refine ⟨fun i m σ H => m = ds.length - i ∧ i ≤ ds.length ∧ ∃ env g H2, Rl S env g σ He H0e H2 H ∧ Same H1 H2 ∧ PstS S W He H0e H1 D (forB t (exSs F N cb) (ds.drop i) env g),
    ⟨ds.length, by simp, Nat.zero_le _, env, g1, H1, R.step a1, Same.refl _, by rw [List.drop_zero]; exact h1.mono a1.stp.s0⟩, ?_⟩
  rintro i m σ1 H2' ⟨rfl, hile, env1, g2, H2, R2, s2, q2⟩
  by_cases hlt : i < ds.length
  · have eds : ds.drop i = ds[i] :: ds.drop (i + 1) := List.drop_eq_getElem_cons hlt
    have hget : ds[i]? = some ds[i] := by simp [hlt]
    refine .inr ⟨wk.goes i H2 H2' s2 R2.sub trivial hlt, fun σ' H' => ∃ env g H3, Rl S env g σ' He H0e H3 H' ∧ Same H1 H3 ∧ PstS S W He H0e H1 D (forB t (exSs F N cb) (ds.drop (i + 1)) env g), fun σ' H' n => ⟨ds.length - (i + 1), by omega, rfl, hlt, n⟩, fun x H' y => ?_⟩
    obtain ⟨H3, a3, hxd⟩ : ∃ H3, Aft S g2 H2 H2' H3 H' ∧ Dr S.K H3 x ds[i] := by
      rcases wk.yields i ds[i] H2 H2' x H' s2 R2.sub trivial hget y with ⟨rfl, hd⟩ | ⟨p, u, hpn, hut, rfl, hd⟩
      · exact ⟨H2, Aft.same R2.sub R2.gen R2.tabs, hd⟩
      · exact ⟨_, Aft.new R2.sub R2.gen R2.tabs hpn hut, hd⟩
    have R3 := R2.step a3
    rw [eds] at q2
    have q2 : PstS S W He H0e H1 D (((M.ofO (setTg env1 t ds[i])).bd fun env' => (exSs F N cb env').bd fun r => match r with
      | .nx e => forB t (exSs F N cb) (ds.drop (i + 1)) e
      | .ct e => forB t (exSs F N cb) (ds.drop (i + 1)) e
      | .bk e => .pu (.nx e)
      | .rt d => .pu (.rt d)) g2) := q2
    cases es : setTg env1 t ds[i] with
    | none => rw [es] at q2; exact q2.elim
    | some env' =>
      rw [es] at q2
      refine ⟨env1, g2, He, H0e, H3, ds[i], env', R3, hxd, es, fun σ2 _ _ R4 => ⟨env', g2, He, H0e, H3, R4, ?_⟩⟩
      have q2 : PstS S W He H0e H1 D (((exSs F N cb env').bd fun r => match r with
        | .nx e => forB t (exSs F N cb) (ds.drop (i + 1)) e
        | .ct e => forB t (exSs F N cb) (ds.drop (i + 1)) e
        | .bk e => .pu (.nx e)
        | .rt d => .pu (.rt d)) g2) := q2
      have s3 := s2.trans a3.stp.s0
      refine PstS.sq q2 fun x g3 h3 => ?_
      cases x with
      | nx e => exact fun σ' H0' H' R' s' => ⟨e, g3, H0', R', s3.trans s', h3⟩
      | ct e => exact fun σ' H0' H' R' s' => ⟨e, g3, H0', R', s3.trans s', h3⟩
      | bk e => exact fun σ' H0' H' R' s' => h3 σ' H0' H' R' (s3.trans s')
      | rt d => exact h3
  · have e7 : i = ds.length := by omega
    subst e7
    rw [List.drop_length] at q2
    exact .inl ⟨wk.stops H2 H2' s2 R2.sub trivial, q2 σ1 H2 H2' R2 s2⟩
end
end PD
set_option Elab.async false
set_option linter.all false
set_option maxRecDepth 100000
set_option autoImplicit false
namespace PD
open PySem PySem.Spec L2

section
variable {X : Cx} {S : Sig} {W : WX} {C : Cfg} {F : Fns} {pos : Pos} {N : Nat}
theorem slot_ix {x : Str} {i : Nat} (G : Gd X S W C F) (h : C.slot x = some i) : X.N[i]? = some x := by
  rw [G.hN]
  unfold Cfg.slot at h
  split at h
  · exact ixOf_get h
  · cases h
theorem ifS {c : Prop} [Decidable c] {α : Type} {o : Option α} {z : α} (e : (if c then o else none) = some z) : c ∧ o = some z := by
  split at e
  · exact ⟨by assumption, e⟩
  · cases e
/-- a, b = x, y -/
theorem st_par2 {x y : Str} {i j : Nat} {a b : Expr} {ca cb : E} {px py pt pt2 : Pos} {kt k2 : Nat} (G : Gd X S W C F) (hi : C.slot x = some i) (hj : C.slot y = some j) (hij : i ≠ j)
    (hx : X.env.scope.names.lookup x = some .local) (hy : X.env.scope.names.lookup y = some .local) (ha : SE X S W F a ca) (hb : SE X S W F b cb)
    (hw : swappedStores [.Tuple [.Name x px, .Name y py] kt pt] (.Tuple [a, b] k2 pt2) X.env = pure (some [x, y])) :
    SS X S W F N (.Assign [.Tuple [.Name x px, .Name y py] kt pt] (.Tuple [a, b] k2 pt2) pos) (.par [i, j] [ca, cb]) := by
  have nd : X.N.Nodup := by rw [G.hN]; exact G.nd
  have hp : SEs X S W F [a, b] [ca, cb] := .cons ha (.cons hb .nil)
  refine PS.weak (ps_par G.calm nd (slot_ix G hi) (slot_ix G hj) hij hx hy hp.pa hw) fun D σ H q => ?_
  obtain ⟨env, g, He, H0e, H0, R, q⟩ := q
  simp only [exS] at q
  refine ⟨env, g, He, H0e, H0, R, PstS.bd R q fun xs g1 vs H1 H1' a1 r1 h1 => ?_⟩
  rw [M.ofO_bd] at h1
  cases e1 : xs.mapM dOf with
  | none => rw [e1] at h1; exact h1.elim
  | some ds =>
    rw [e1] at h1
    have hd := drs_of r1 e1
    have h1 : PstS S W He H0e H0 D (((M.ofO (setTgs env [i, j] ds)).bd fun env' => M.pu (.nx env')) g1) := h1
    cases e2 : setTgs env [i, j] ds with
    | none => rw [e2] at h1; exact h1.elim
    | some env' =>
      rw [e2] at h1
      cases hd with
      | nil => cases e2
      | cons k1 hd =>
        cases hd with
        | nil => exfalso; revert e2; unfold setTgs; split <;> simp [setTgs]
        | cons k2 hd =>
          cases hd with
          | cons _ _ => exfalso; revert e2; unfold setTgs; split <;> simp [setTgs]
          | nil =>
            rename_i v1 d1 v2 d2
            have e2 : (if i < env.length then (if j < (env.set i (.fz d1)).length then some ((env.set i (.fz d1)).set j (.fz d2)) else none) else none) = some env' := e2
            obtain ⟨b1, e2⟩ := ifS e2
            obtain ⟨b2, rfl⟩ := ifO e2
            exact ⟨v1, v2, rfl, h1 _ H1 H1' (((R.step a1).set b1 k1).set b2 k2) a1.stp.s0⟩
theorem st_par3 {x y z : Str} {i j l : Nat} {a b c : Expr} {ca cb cc : E} {px py pz pt pt2 : Pos} {kt k2 : Nat} (G : Gd X S W C F) (hi : C.slot x = some i) (hj : C.slot y = some j) (hl : C.slot z = some l) (hij : i ≠ j) (hil : i ≠ l) (hjl : j ≠ l)
    (hx : X.env.scope.names.lookup x = some .local) (hy : X.env.scope.names.lookup y = some .local) (hz : X.env.scope.names.lookup z = some .local) (ha : SE X S W F a ca) (hb : SE X S W F b cb) (hc : SE X S W F c cc)
    (hw : swappedStores [.Tuple [.Name x px, .Name y py, .Name z pz] kt pt] (.Tuple [a, b, c] k2 pt2) X.env = pure (some [x, y, z])) :
    SS X S W F N (.Assign [.Tuple [.Name x px, .Name y py, .Name z pz] kt pt] (.Tuple [a, b, c] k2 pt2) pos) (.par [i, j, l] [ca, cb, cc]) := by
  have nd : X.N.Nodup := by rw [G.hN]; exact G.nd
  have hp : SEs X S W F [a, b, c] [ca, cb, cc] := .cons ha (.cons hb (.cons hc .nil))
  refine PS.weak (ps_par3 G.calm nd (slot_ix G hi) (slot_ix G hj) (slot_ix G hl) hij hil hjl hx hy hz hp.pa hw) fun D σ H q => ?_
  obtain ⟨env, g, He, H0e, H0, R, q⟩ := q
  simp only [exS] at q
  refine ⟨env, g, He, H0e, H0, R, PstS.bd R q fun xs g1 vs H1 H1' a1 r1 h1 => ?_⟩
  rw [M.ofO_bd] at h1
  cases e1 : xs.mapM dOf with
  | none => rw [e1] at h1; exact h1.elim
  | some ds =>
    rw [e1] at h1
    have hd := drs_of r1 e1
    have h1 : PstS S W He H0e H0 D (((M.ofO (setTgs env [i, j, l] ds)).bd fun env' => M.pu (.nx env')) g1) := h1
    cases e2 : setTgs env [i, j, l] ds with
    | none => rw [e2] at h1; exact h1.elim
    | some env' =>
      rw [e2] at h1
      cases hd with
      | nil => cases e2
      | cons k1 hd =>
        cases hd with
        | nil => exfalso; revert e2; unfold setTgs; split <;> simp [setTgs]
        | cons k2 hd =>
          cases hd with
          | nil => exfalso; revert e2; unfold setTgs; split <;> simp [setTgs]
          | cons k3 hd =>
            cases hd with
            | cons _ _ => exfalso; revert e2; unfold setTgs; split <;> simp [setTgs]
            | nil =>
              rename_i v1 d1 v2 d2 v3 d3
              have e2 : (if i < env.length then (if j < (env.set i (.fz d1)).length then (if l < ((env.set i (.fz d1)).set j (.fz d2)).length then some (((env.set i (.fz d1)).set j (.fz d2)).set l (.fz d3)) else none) else none) else none) = some env' := e2
              obtain ⟨b1, e2⟩ := ifS e2
              obtain ⟨b2, e2⟩ := ifS e2
              obtain ⟨b3, rfl⟩ := ifO e2
              exact ⟨v1, v2, v3, rfl, h1 _ H1 H1' ((((R.step a1).set b1 k1).set b2 k2).set b3 k3) a1.stp.s0⟩
/-! ### own lists -/
def VRf (S : Sig) (Hb : Hp) : Hp → Hp → V → List PD.D → Prop := fun H0 H v ds => ∃ a xs, v = .ref a ∧ H a = some (.lst xs) ∧ H0 a = none ∧ Fre Hb a ∧ DrAll S.K H0 xs ds
def RF (S : Sig) (W : WX) (f : Env → M (List PD.D)) : TE := fun σ H Q => ∃ env g He H0e H0, Rl S env g σ He H0e H0 H ∧ Pst S W σ H0 H (VRf S H) Q (f env g)
theorem Rl.he {S : Sig} {env : Env} {g : Gen} {σ : L2.St} {He H0e H0 H : Hp} (R : Rl S env g σ He H0e H0 H) {p : Addr} (h : Fre H p) : Fre He p := R.stp.th p h
theorem Stp.back {gm : Option Addr} {H0 H H0' H' : Hp} (a : Stp gm H0 H H0' H') {p : Addr} (h : Fre H' p) : Fre H p := a.th p h
theorem fr_lst {es : List Expr} {cs : List E} {pos : Pos} (G : Gd X S W C F) (h : SEs X S W F es cs) : PE X (.List es pos) (RF S W (evFr F (.lst cs))) := by
  refine PE.weak (pe_lst h.pa) fun σ H Q q => ?_
  obtain ⟨env, g, He, H0e, H0, R, q⟩ := q
  unfold evFr at q
  refine ⟨env, g, He, H0e, H0, R, Pst.bd q fun xs g1 vs H1 H1' a1 r1 h1 => ?_⟩
  rw [M.ofO_bd] at h1
  have R1 := R.step a1
  cases e1 : xs.mapM dOf with
  | none => rw [e1] at h1; exact h1.elim
  | some ds =>
    rw [e1] at h1
    have hd := drs_of r1 e1
    dsimp only at h1
    split at h1
    · rename_i hz
      refine ⟨by rw [hd.length]; exact hz, fun p hp => ?_⟩
      exact h1 _ H1 (upd H1' p (.lst vs)) (Aft.grow R1.sub R1.gen R1.tabs hp) ⟨p, vs, rfl, upd_same, R1.sub.free hp, a1.stp.back (.inl hp), hd⟩
    · exact h1.elim
theorem fr_add {a b : Expr} {ca cb : E} {pos : Pos} (G : Gd X S W C F) (ha : SE X S W F a ca) (hb : SE X S W F b cb) : PE X (.BinOp a .Add b pos) (RF S W (evFr F (.bin .Add ca cb))) := by
  refine PE.weak (pe_op op_cat ha.pe hb.pe) fun σ H Q q => ?_
  obtain ⟨env, g, He, H0e, H0, R, q⟩ := q
  unfold evFr at q
  refine ⟨env, g, He, H0e, H0, R, Pst.bd q fun x g1 v H1 H1' a1 r1 h1 => ?_⟩
  have R1 := R.step a1
  refine ⟨env, g1, He, H0e, H1, R1, Pst.bd h1 fun y g2 w H2 H2' a2 r2 h2 => ?_⟩
  have R2 := R1.step a2
  have r1' := r1.step R1.gen a2
  split at h2
  · rename_i i j e1 e2
    split at h2
    · rename_i hz
      obtain ⟨l1, xs, rfl, k1, k2⟩ := VR.lst R2.sub r1' e1
      obtain ⟨l2, ys, rfl, k3, k4⟩ := VR.lst R2.sub r2 e2
      refine ⟨l1, l2, xs, ys, rfl, rfl, k1, k3, by rw [k2.length, k4.length]; exact hz, fun p hp => ?_⟩
      exact h2 _ H2 (upd H2' p (.lst (xs ++ ys))) (Aft.grow R2.sub R2.gen R2.tabs hp) ⟨p, _, rfl, upd_same, R2.sub.free hp, a1.stp.back (a2.stp.back (.inl hp)), k2.append k4⟩
    · exact h2.elim
  · exact h2.elim
/-- a comprehension's list -/
theorem lc_readF {Hb : Hp} {J : It} {o : Option (Addr × List V)} {env : Env} {g1 : Gen} {σ : L2.St} {He H0e H1 H1' : Hp} {Q : VK} {ds : List PD.D} {w : List Nat} {tg : Tg} {t : Option E} {e : E} (hb : ∀ p, Fre H1' p → Fre Hb p)
    (R1 : Rl S env g1 σ He H0e H1 H1') (wk : WkD S J o H1 ds) (hold : Hold o H1') (hw : ∀ i ∈ tgIx tg, i ∈ w)
    (h : Pst S W σ H1 H1' (VRf S Hb) Q (((mapB (fun d => M.calm ((M.ofO (setTg (wipeE env w) tg d)).bd fun env' => (evOT F t env').bd fun k =>
      if k then (ev F e env').bd fun y => (solid y).bd fun y => .pu (some y) else .pu none)) ds).bd fun ys => if ys.length ≤ sizeLine then .pu ys else .stuck) g1)) :
    ∀ D, H1' D = none → ∃ Wv : Nat → Nat → Hp → Prop, (∃ m, Wv 0 m (upd H1' D (.lst []))) ∧ ∀ i m H, Wv i m H → (J.stop i H ∧ Q (.ref D) H) ∨ (J.go i H ∧ ∃ Nx : Hp → Prop, (∀ H', Nx H' → ∃ m', m' < m ∧ Wv (i + 1) m' H') ∧
      ∀ x H', J.yld i H x H' → gD S tg x (L2.wipe σ w) H' fun σ2 H2 => L2.wipe σ2 w = L2.wipe σ w ∧ RX S W0 relB (evOT F t) σ2 H2 fun b H3 =>
        if b = true then RE S W0 (ev F e) σ2 H3 fun y H4 => ∃ acc, H4 D = some (.lst acc) ∧ acc.length < sizeLine ∧ Nx (upd H4 D (.lst (acc ++ [y]))) else Nx H3) :=
  lc_readG (fun ys : List PD.D => ys) (fun D gi H0i H acc ys hD a hDi h0D hacc => ⟨H0i, a, D, acc, rfl, hDi, h0D, hb D (.inl hD), hacc⟩) R1 wk hold hw h
theorem fr_lc {elt tg iter : Expr} {ifs : List Expr} {scope : Scope} {pos : Pos} {t : Tg} {it : I} {k : Option E} {e : E} (G : Gd X S W C F)
    (hb : blkC C.N C.sc scope (ownOf C.N scope) = true) (hw : (tgIx t).all (fun i => decide (i ∈ (ownOf C.N scope).map Prod.snd)) = true)
    (hs : ∀ x, foldedSetIterable iter X.env x = pure x)
    (hi : PI X tg iter (RI S W (evI F it))) (ht : cTg (C.tgt scope) tg = some t)
    (hk : ∀ X', Gd X' S W0 (C.inn scope) F → PTs X' ifs (RT S W0 (evOT F k)))
    (he : ∀ X', Gd X' S W0 (C.inn scope) F → PE X' elt (RE S W0 (ev F e))) :
    PE X (.ListComp elt [⟨tg, iter, ifs, 0⟩] scope pos) (RF S W (evFr F (.lc t it k e ((ownOf C.N scope).map Prod.snd)))) := by
  have nd : X.N.Nodup := by rw [G.hN]; exact G.nd
  refine PE.weak (pe_lc G.calm nd hi (own := ownOf C.N scope) (by rw [G.hN, G.hsc]; exact blkOk_by hb)
    (fun s H Ca cl fp => g_tg (S := S) nd G.calm G.hK (StOk.blk G hb s H Ca cl fp) ht)
    (fun s H Ca cl fp => hk _ (G.blk s H Ca cl fp)) (fun s H Ca cl fp => he _ (G.blk s H Ca cl fp)) hs) fun σ H Q q => ?_
  obtain ⟨env, g, He, H0e, H0, R0, q⟩ := q
  unfold evFr at q
  refine ⟨env, g, He, H0e, H0, R0, Pst.bd q fun ds g1 J H1 H1' a1 r1 h1 => ?_⟩
  obtain ⟨o, wk, hold⟩ := r1
  exact lc_readF (fun p hp => a1.stp.back hp) (R0.step a1) wk hold (fun i hi => by
    have := List.all_eq_true.mp hw i hi
    simpa using this) h1
/-- an own object is not a free place -/
theorem Rl.own_ne {S : Sig} {env : Env} {g : Gen} {σ : L2.St} {He H0e H0 H : Hp} (R : Rl S env g σ He H0e H0 H) {j : Nat} {a b : Addr} (l : Fre H a) (ho : Own env j) (e2 : σ[j]? = some (some (.ref b))) : b ≠ a := by
  rcases ho with ⟨es, ho⟩ | ⟨c, ho⟩
  · obtain ⟨o, m1, c, ys, m2, m3, _⟩ := R.slots j _ ho
    rw [e2] at m1
    cases m1
    cases m2
    exact l.ne m3 (fun ps z => by cases z)
  · obtain ⟨o, m1, d, u, m2, m3, _, _, m5⟩ := R.slots j _ ho
    rw [e2] at m1
    cases m1
    cases m2
    obtain ⟨f, rfl⟩ := m5.ext
    exact l.ne m3 (fun ps z => by cases z)
theorem Own.other {env : Env} {i j : Nat} {s : Sl} (h : Own (env.set i s) j) (n : j ≠ i) : Own env j := by
  unfold Own at h ⊢
  rw [List.getElem?_set_ne (Ne.symm n)] at h
  exact h
/-- an own list in a slot -/
theorem Rl.setO {S : Sig} {env : Env} {g : Gen} {σ : L2.St} {He H0e H0 H : Hp} (R : Rl S env g σ He H0e H0 H) {i : Nat} {a : Addr} {xs : List V} {ds : List PD.D} (hi : i < env.length) (h1 : H a = some (.lst xs)) (h2 : H0 a = none) (h3 : Fre He a) (h4 : DrAll S.K H0 xs ds)
    (new : ∀ j b, Own env j → j ≠ i → σ[j]? = some (some (.ref b)) → b ≠ a) : Rl S (env.set i (.ow ds)) g (σ.set i (some (.ref a))) He H0e H0 H := by
  have hσ : i < σ.length := by
    obtain ⟨o, h, _⟩ := R.slots i env[i] (by simp [hi])
    exact (List.getElem?_eq_some_iff.mp h).1
  refine ⟨R.stp, R.sub, R.gen, R.ngen, R.tabs, R.ntbl, fun j s e => ?_, fun j k b hne k1 k2 k3 k4 => ?_⟩
  · by_cases hj : j = i
    · subst hj
      rw [List.getElem?_set_self hi] at e
      cases e
      exact ⟨_, List.getElem?_set_self hσ, a, xs, rfl, h1, h2, h3, h4⟩
    · rw [List.getElem?_set_ne (Ne.symm hj)] at e
      obtain ⟨o, l1, l2⟩ := R.slots j s e
      exact ⟨o, by rw [List.getElem?_set_ne (Ne.symm hj)]; exact l1, l2⟩
  · by_cases hj : j = i
    · subst hj
      rw [List.getElem?_set_self hσ] at k3
      cases k3
      have hk : k ≠ j := Ne.symm hne
      rw [List.getElem?_set_ne (Ne.symm hk)] at k4
      exact new k _ (k2.other hk) hk k4 rfl
    · rw [List.getElem?_set_ne (Ne.symm hj)] at k3
      by_cases hk : k = i
      · subst hk
        rw [List.getElem?_set_self hσ] at k4
        cases k4
        exact new j _ (k1.other hj) hj k3 rfl
      · rw [List.getElem?_set_ne (Ne.symm hk)] at k4
        exact R.own j k b hne (k1.other hj) (k2.other hk) k3 k4
theorem st_asgF {x : Str} {i : Nat} {e : Expr} {c : E} {pos' : Pos} (G : Gd X S W C F) (K : StOk X C) (hi : C.slot x = some i) (he : PE X e (RF S W (evFr F c))) (hs : swapsWith e (some (.Name x pos')) pos.line X.env = pure false) :
    SS X S W F N (.Assign [.Name x pos'] e pos) (.asgF i c) := by
  have nd : X.N.Nodup := by rw [G.hN]; exact G.nd
  obtain ⟨k1, k2, k3⟩ := K x i hi
  refine PS.weak (ps_set nd k1 k2 he hs k3) fun D σ H q => ?_
  obtain ⟨env, g, He, H0e, H0, R, q⟩ := q
  simp only [exS] at q
  refine ⟨env, g, He, H0e, H0, R, PstS.bd R q fun ds g1 v H1 H1' a1 r1 h1 => ?_⟩
  obtain ⟨a, xs, rfl, l1, l2, l3, l4⟩ := r1
  split at h1
  · refine h1 _ H1 H1' ((R.step a1).setO (by assumption) l1 l2 (R.he l3) l4 fun j b ho hj e2 => ?_) a1.stp.s0
    exact R.own_ne l3 ho e2
  · exact h1.elim
/-- name = [.. for ..] on one line, the list an own one -/
theorem st_lcsetF {elt tg iter : Expr} {ifs : List Expr} {scope : Scope} {lp py : Pos} {x : Str} {i : Nat} {t : Tg} {it : I} {k : Option E} {e : E} (G : Gd X S W C F) (hx : C.slot x = some i)
    (hl : X.env.scope.names.lookup x = some .local) (hsw : swapsWith (.ListComp elt [⟨tg, iter, ifs, 0⟩] scope lp) (some (.Name x py)) pos.line X.env = pure true)
    (hb : blkC C.N C.sc scope (ownOf C.N scope) = true) (hw : (tgIx t).all (fun i => decide (i ∈ (ownOf C.N scope).map Prod.snd)) = true)
    (hs : ∀ x, foldedSetIterable iter X.env x = pure x)
    (hi : PI X tg iter (RI S W (evI F it))) (ht : cTg (C.tgt scope) tg = some t)
    (hk : ∀ X', Gd X' S W0 (C.inn scope) F → PTs X' ifs (RT S W0 (evOT F k)))
    (he : ∀ X', Gd X' S W0 (C.inn scope) F → PE X' elt (RE S W0 (ev F e))) :
    SS X S W F N (.Assign [.Name x py] (.ListComp elt [⟨tg, iter, ifs, 0⟩] scope lp) pos) (.asgF i (.lc t it k e ((ownOf C.N scope).map Prod.snd))) := by
  have nd : X.N.Nodup := by rw [G.hN]; exact G.nd
  refine PS.weak (ps_setLc (i := i) G.calm nd (slot_ix G hx) hl hsw hi (own := ownOf C.N scope) (by rw [G.hN, G.hsc]; exact blkOk_by hb)
    (fun s H Ca cl fp => g_tg (S := S) nd G.calm G.hK (StOk.blk G hb s H Ca cl fp) ht)
    (fun s H Ca cl fp => hk _ (G.blk s H Ca cl fp)) (fun s H Ca cl fp => he _ (G.blk s H Ca cl fp)) hs) fun D σ H q => ?_
  obtain ⟨env, g, He, H0e, H0, R, q⟩ := q
  simp only [exS] at q
  have q2 : Pst S W σ H0 H (VRf S H) (fun v H' => D.nx (σ.set i (some v)) H') (evFr F (.lc t it k e ((ownOf C.N scope).map Prod.snd)) env g) := by
    refine PstS.bd R q fun ds g1 v H1 H1' a1 r1 h1 => ?_
    obtain ⟨a, xs, rfl, l1, l2, l3, l4⟩ := r1
    split at h1
    · refine h1 _ H1 H1' ((R.step a1).setO (by assumption) l1 l2 (R.he l3) l4 fun j b ho hj e2 => ?_) a1.stp.s0
      exact R.own_ne l3 ho e2
    · exact h1.elim
  unfold evFr at q2
  refine ⟨env, g, He, H0e, H0, R, Pst.bd q2 fun ds g1 J H1 H1' a1 r1 h1 => ?_⟩
  obtain ⟨o, wk, hold⟩ := r1
  exact lc_readF (fun p hp => a1.stp.back hp) (R.step a1) wk hold (fun i hi => by
    have := List.all_eq_true.mp hw i hi
    simpa using this) h1
theorem Rl.apps {S : Sig} {env : Env} {g : Gen} {σ : L2.St} {He H0e H0 H : Hp} (R : Rl S env g σ He H0e H0 H) {i : Nat} {a : Addr} {xs : List V} {ds : List PD.D} {vs : List V} {es : List PD.D} (e0 : env[i]? = some (.ow ds)) (e1 : σ[i]? = some (some (.ref a))) (h1 : H a = some (.lst xs)) (h2 : H0 a = none) (h3 : Fre He a) (h4 : DrAll S.K H0 xs ds) (hv : DrAll S.K H0 vs es) :
    Rl S (env.set i (.ow (ds ++ es))) g σ He H0e H0 (upd H a (.lst (xs ++ vs))) := by
  have A := (R.aft (Aft.refl R)).wrt (ys := xs ++ vs) h3 h2 h1
  have hi : i < env.length := (List.getElem?_eq_some_iff.mp e0).1
  refine ⟨A.stp, A.sub, A.gen, R.ngen, A.tabs, R.ntbl, fun j s e => ?_, fun j k b hne k1 k2 k3 => ?_⟩
  · by_cases hj : j = i
    · subst hj
      rw [List.getElem?_set_self hi] at e
      cases e
      exact ⟨_, e1, a, _, rfl, upd_same, h2, h3, h4.append hv⟩
    · rw [List.getElem?_set_ne (Ne.symm hj)] at e
      obtain ⟨o, l1, l2⟩ := R.slots j s e
      refine ⟨o, l1, ?_⟩
      cases s with
      | un => trivial
      | fz d => exact l2
      | gn => exact l2
      | sc _ => exact l2
      | ow es2 =>
        obtain ⟨b, ys, m1, m2, m3, m4, m5⟩ := l2
        subst m1
        have nb : b ≠ a := fun z => by
          subst z
          exact R.own i j b (Ne.symm hj) (.inl ⟨_, e0⟩) (.inl ⟨_, e⟩) e1 l1
        exact ⟨b, ys, rfl, by rw [upd_ne nb]; exact m2, m3, m4, m5⟩
      | oc c =>
        obtain ⟨b, u, m1, m2, m3, m4, m5⟩ := l2
        subst m1
        have nb : b ≠ a := fun z => by
          subst z
          exact R.own i j b (Ne.symm hj) (.inl ⟨_, e0⟩) (.inr ⟨_, e⟩) e1 l1
        exact ⟨b, u, rfl, by rw [upd_ne nb]; exact m2, m3, m4, m5⟩
  · have nj : ∀ {m : Nat}, Own (env.set i (.ow (ds ++ es))) m → Own env m := fun {m} q => by
      by_cases hm : m = i
      · subst hm; exact .inl ⟨_, e0⟩
      · unfold Own at q ⊢
        rw [List.getElem?_set_ne (Ne.symm hm)] at q; exact q
    exact R.own j k b hne (nj k1) (nj k2) k3
theorem Rl.app {S : Sig} {env : Env} {g : Gen} {σ : L2.St} {He H0e H0 H : Hp} (R : Rl S env g σ He H0e H0 H) {i : Nat} {a : Addr} {xs : List V} {ds : List PD.D} {v : V} {d : PD.D} (e0 : env[i]? = some (.ow ds)) (e1 : σ[i]? = some (some (.ref a))) (h1 : H a = some (.lst xs)) (h2 : H0 a = none) (h3 : Fre He a) (h4 : DrAll S.K H0 xs ds) (hv : Dr S.K H0 v d) :
    Rl S (env.set i (.ow (ds ++ [d]))) g σ He H0e H0 (upd H a (.lst (xs ++ [v]))) := R.apps e0 e1 h1 h2 h3 h4 (.cons hv .nil)
/-- x.append(e), x an own list -/
theorem st_ap {x m : Str} {i : Nat} {e : Expr} {c : E} {p apos cpos : Pos} (G : Gd X S W C F) (hm : m = "append") (hv : C.var x = some i) (he : SE X S W F e c) (hline : (apos.endLine == cpos.line) = true) :
    SS X S W F N (.Expr (.Call (.Attribute (.Name x p) m apos) [e] [] cpos) pos) (.ap i c) := by
  subst hm
  have vis : PE X (.Name x p) (tVar i) := by
    unfold Cfg.var at hv
    split at hv
    · rename_i hc
      rw [Bool.and_eq_true] at hc
      obtain ⟨d1, d2⟩ := dbg_of hc.2
      exact pe_var (i := i) (by rw [G.hN]; exact ixOf_get hv) (by rw [G.hsc]; exact vis_of hc.1) d1 d2
    · cases hv
  have pa : PA X [e] (tCons (RE S W (ev F c)) tNil) := pa_cons he.pe pa_nil (he.ns _ _)
  refine PS.weak (ps_expr (pe_bm PySem.F.plainAttrs_list PySem.F.slot_list_append PySem.F.type_list_append mt_append vis pa (hline := hline) (hs := he.ns _ _) (hfew := by
    rw [he.ns]
    rfl)) rfl) fun D σ H q => ?_
  obtain ⟨env, g, He, H0e, H0, R, q⟩ := q
  simp only [exS] at q
  cases e0 : env[i]? with
  | none => rw [e0] at q; exact q.elim
  | some s =>
    rw [e0] at q
    cases s with
    | un => exact q.elim
    | fz _ => exact q.elim
    | gn => exact q.elim
    | sc _ => exact q.elim
    | oc _ => exact q.elim
    | ow ds =>
      obtain ⟨o, e1, a, xs, e2, e3, e4, e5, e6⟩ := R.slots i _ e0
      subst e2
      refine ⟨.ref a, e1, .inl ⟨rfl, _, SqL.of e3⟩, ?_⟩
      refine ⟨env, g, He, H0e, H0, R, PstS.bd R q fun y g1 v H1 H1' a1 r1 h1 => ?_⟩
      have R1 := R.step a1
      cases y with
      | gn => exact h1.elim
      | sc _ => exact h1.elim
      | co _ => exact h1.elim
      | bo _ => exact h1.elim
      | d d =>
        obtain ⟨o', f1, a', xs', f2, f3, f4, f5, f6⟩ := R1.slots i _ e0
        rw [e1] at f1
        cases f1
        cases f2
        have f3' := a1.stp.fr _ _ e3 (R.gen.nlst e3) (fun ps z => by cases z)
        have h1 : PstS S W He H0e H0 D ((if ds.length < sizeLine then M.pu (.nx (env.set i (.ow (ds ++ [d])))) else M.stuck) g1) := h1
        split at h1
        · rename_i hz
          refine ⟨a, xs', v, rfl, rfl, f3, by rw [f6.length]; exact hz, ?_⟩
          exact h1 σ H1 _ (R1.app e0 e1 f3 f4 f5 f6 r1) a1.stp.s0
        · exact h1.elim
/-- x.extend(e), x an own list, e a list -/
theorem st_ex {x m : Str} {i : Nat} {e : Expr} {c : E} {p apos cpos : Pos} (G : Gd X S W C F) (hm : m = "extend") (hv : C.var x = some i) (he : SE X S W F e c) (hline : (apos.endLine == cpos.line) = true) :
    SS X S W F N (.Expr (.Call (.Attribute (.Name x p) m apos) [e] [] cpos) pos) (.ex i c) := by
  subst hm
  have vis : PE X (.Name x p) (tVar i) := by
    unfold Cfg.var at hv
    split at hv
    · rename_i hc
      rw [Bool.and_eq_true] at hc
      obtain ⟨d1, d2⟩ := dbg_of hc.2
      exact pe_var (i := i) (by rw [G.hN]; exact ixOf_get hv) (by rw [G.hsc]; exact vis_of hc.1) d1 d2
    · cases hv
  have pa : PA X [e] (tCons (RE S W (ev F c)) tNil) := pa_cons he.pe pa_nil (he.ns _ _)
  refine PS.weak (ps_expr (pe_bm PySem.F.plainAttrs_list PySem.F.slot_list_extend PySem.F.type_list_extend mt_extend vis pa (hline := hline) (hs := he.ns _ _) (hfew := by
    rw [he.ns]
    rfl)) rfl) fun D σ H q => ?_
  obtain ⟨env, g, He, H0e, H0, R, q⟩ := q
  simp only [exS] at q
  cases e0 : env[i]? with
  | none => rw [e0] at q; exact q.elim
  | some s =>
    rw [e0] at q
    cases s with
    | un => exact q.elim
    | fz _ => exact q.elim
    | gn => exact q.elim
    | sc _ => exact q.elim
    | oc _ => exact q.elim
    | ow ds =>
      obtain ⟨o, e1, a, xs, e2, e3, e4, e5, e6⟩ := R.slots i _ e0
      subst e2
      refine ⟨.ref a, e1, .inl ⟨rfl, _, SqL.of e3⟩, ?_⟩
      refine ⟨env, g, He, H0e, H0, R, PstS.bd R q fun y g1 v H1 H1' a1 r1 h1 => ?_⟩
      have R1 := R.step a1
      cases el : lsOf y with
      | none => rw [el] at h1; exact h1.elim
      | some es =>
        rw [el] at h1
        have h1 : PstS S W He H0e H0 D ((if ds.length + es.length ≤ sizeLine then M.pu (.nx (env.set i (.ow (ds ++ es)))) else M.stuck) g1) := h1
        split at h1
        · rename_i hz
          obtain ⟨o', f1, a', xs', f2, f3, f4, f5, f6⟩ := R1.slots i _ e0
          rw [e1] at f1
          cases f1
          cases f2
          have ed : asD y = some (.list es) := by
            unfold lsOf at el
            split at el
            · rename_i ds' ea
              cases el
              exact ea
            · cases el
          obtain ⟨b, zs, rfl, k1, k2⟩ := r1.lst a1.sub ed
          refine ⟨a, b, xs', zs, rfl, rfl, f3, k1, by rw [f6.length, k2.length]; exact hz, ?_⟩
          exact h1 σ H1 _ (R1.apps e0 e1 f3 f4 f5 f6 k2) a1.stp.s0
        · exact h1.elim
/-! ### raise -/
def tMkX (c : Str) (S : Sig) (ta : TA) : L2.St → Hp → XK → Prop := fun σ H Q => ta σ H fun vs H1 => ∃ v, vs = [v] ∧ ∀ d, H1 d = none → Q (.ref (S.cl c)) (some d) (upd H1 d (.xd [(S.at_ c, v)]))
/-- a class of errors with one field: what its call makes -/
def ExcOk (X : Cx) (S : Sig) (c : Str) : Prop := ∀ (a : Expr) (ta : TA) (p pos : Pos), PA X [a] ta → starEach [a] X.env = [(false, eval a X.env)] → PMk X (.Call (.Name c p) [a] [] pos) (tMkX c S ta)
theorem st_raise {x : Str} {e : Expr} {c : E} {p cpos : Pos} (G : Gd X S W C F) (hx : ExcOk X S x) (he : SE X S W F e c) : SS X S W F N (.Raise (some (.Call (.Name x p) [e] [] cpos)) none pos) (.raise x c) := by
  have pa : PA X [e] (tCons (RE S W (ev F c)) tNil) := pa_cons he.pe pa_nil (he.ns _ _)
  refine PS.weak (ps_raise G.calm G.tk (hx e _ p cpos pa (he.ns _ _))) fun D σ H q => ?_
  obtain ⟨env, g, He, H0e, H0, R, q⟩ := q
  simp only [exS] at q
  refine ⟨env, g, He, H0e, H0, R, PstS.bd R q fun y g1 v H1 H1' a1 r1 h1 => ?_⟩
  have R1 := R.step a1
  cases y with
  | gn => exact h1.elim
  | sc _ => exact h1.elim
  | co _ => exact h1.elim
  | bo _ => exact h1.elim
  | d d =>
    refine ⟨v, rfl, fun dx hd => ?_⟩
    have h1 : ∀ dx v σ H0' H', Aft S g1 H0e He H0' H' → H' dx = some (.xd [(S.at_ x, v)]) → Dr S.K H0' v d → W (.ref (S.cl x)) (some dx) σ H' := h1
    exact h1 dx v σ H1 _ (R.aft (a1.trans (Aft.grow R1.sub R1.gen R1.tabs hd))) upd_same r1
end
end PD
set_option Elab.async false
set_option linter.all false
set_option maxRecDepth 100000
set_option maxHeartbeats 4000000
set_option autoImplicit false
namespace PD
open PySem PySem.Spec L2
/-! ### own collections -/
def codeHeap (a : Addr) (q : Str) : Heap := ⟨Array.replicate (a + 1) { cls := .none, data := .fields #[.none, .str q 0] }, {}⟩
theorem codeHeap_at (a : Addr) (q : Str) : (codeHeap a q).get? a = some { cls := .none, data := .fields #[.none, .str q 0] } := by
  unfold Heap.get? codeHeap
  rw [Array.getElem?_replicate]
  simp
/-- a collection is no code -/
theorem ColR.code {K : KW} {H : Hp} {a : Addr} {c : Col} {u : HO} (h : ColR K H a c u) (q : Str) : u ≠ LamX.CodeO a q := fun e => by
  have ch := codeHeap_at a q
  have key : ∀ f : Heap → Prop, u = .ext f → f (codeHeap a q) := fun f ef => by
    rw [ef] at e
    unfold LamX.CodeO at e
    injection e with e
    rw [e]
    exact ⟨_, _, _, ch, rfl, rfl⟩
  cases c with
  | set ds =>
    obtain ⟨ps, h1, _⟩ := h
    obtain ⟨es, ep, t, ⟨o, ho, _, hd⟩, _⟩ := key _ h1
    rw [ch] at ho
    cases ho
    cases hd
  | dct kvs =>
    obtain ⟨ps, h1, _⟩ := h
    obtain ⟨xs, _, _, _, ⟨o, es, ep, ho, _, hd, _⟩, _⟩ := key _ h1
    rw [ch] at ho
    cases ho
    cases hd
section
variable {S : Sig} {env : Env} {g : Gen} {σ : L2.St} {He H0e H0 H : Hp}
theorem Rl.setC (R : Rl S env g σ He H0e H0 H) {i : Nat} {a : Addr} {u : HO} {c : Col} (hi : i < env.length) (h1 : H a = some u) (h2 : H0 a = none) (h3 : Fre He a) (h4 : ColR S.K H0 a c u)
    (new : ∀ j b, Own env j → j ≠ i → σ[j]? = some (some (.ref b)) → b ≠ a) : Rl S (env.set i (.oc c)) g (σ.set i (some (.ref a))) He H0e H0 H := by
  have hσ : i < σ.length := by
    obtain ⟨o, h, _⟩ := R.slots i env[i] (by simp [hi])
    exact (List.getElem?_eq_some_iff.mp h).1
  refine ⟨R.stp, R.sub, R.gen, R.ngen, R.tabs, R.ntbl, fun j s e => ?_, fun j k b hne k1 k2 k3 k4 => ?_⟩
  · by_cases hj : j = i
    · subst hj
      rw [List.getElem?_set_self hi] at e
      cases e
      exact ⟨_, List.getElem?_set_self hσ, a, u, rfl, h1, h2, h3, h4⟩
    · rw [List.getElem?_set_ne (Ne.symm hj)] at e
      obtain ⟨o, l1, l2⟩ := R.slots j s e
      exact ⟨o, by rw [List.getElem?_set_ne (Ne.symm hj)]; exact l1, l2⟩
  · by_cases hj : j = i
    · subst hj
      rw [List.getElem?_set_self hσ] at k3
      cases k3
      have hk : k ≠ j := Ne.symm hne
      rw [List.getElem?_set_ne (Ne.symm hk)] at k4
      exact new k _ (k2.other hk) hk k4 rfl
    · rw [List.getElem?_set_ne (Ne.symm hj)] at k3
      by_cases hk : k = i
      · subst hk
        rw [List.getElem?_set_self hσ] at k4
        cases k4
        exact new j _ (k1.other hj) hj k3 rfl
      · rw [List.getElem?_set_ne (Ne.symm hk)] at k4
        exact R.own j k b hne (k1.other hj) (k2.other hk) k3 k4
theorem Aft.wrtE {H1 H1' : Hp} {p : Addr} {f : Heap → Prop} {u : HO} (a : Aft S g H0 H H1 H1') (hp : Fre H p) (h1 : H1 p = none) (he : H1' p = some (.ext f)) (nc : ∀ q, H1' p ≠ some (LamX.CodeO p q)) (nt : ∀ ps, u ≠ .tbl ps) : Aft S g H0 H H1 (upd H1' p u) := by
  have ne1 : ∀ {b u}, H1 b = some u → b ≠ p := fun {b u} e => ne_of_none e h1
  refine ⟨⟨a.stp.s0, fun b u e n t => ?_, fun b e => ?_, a.stp.fresh, a.stp.nt⟩, fun b u e => ?_, fun r hr => ?_, fun q hq => ?_⟩
  · rw [upd_ne (hp.ne e t)]; exact a.stp.fr b u e n t
  · by_cases z : b = p
    · rw [z]; exact hp
    · refine a.stp.th b ?_
      unfold Fre at e ⊢
      rw [upd_ne z] at e; exact e
  · rw [upd_ne (ne1 e)]; exact a.sub b u e
  · obtain ⟨gl, e1, e2⟩ := a.gen r hr
    refine ⟨gl, ?_, e2⟩
    rw [upd_ne (ne_of e1 he (by intro z; cases z))]; exact e1
  · obtain ⟨ps, k1, k2, k3⟩ := a.tabs q hq
    have n1 : q.1 ≠ p := ne_of k1 he (by intro z; cases z)
    refine ⟨ps, by rw [upd_ne n1]; exact k1, k2, fun pos cv hc => ?_⟩
    obtain ⟨c, e3, e4⟩ := k3 pos cv hc
    refine ⟨c, e3, ?_⟩
    rw [upd_ne (fun z => nc q.2 (by rw [← z]; exact e4))]
    exact e4
theorem Rl.upC (R : Rl S env g σ He H0e H0 H) {i : Nat} {a : Addr} {c c' : Col} {u0 u : HO} (e0 : env[i]? = some (.oc c)) (e1 : σ[i]? = some (some (.ref a))) (h1 : H a = some u0) (h0 : ColR S.K H0 a c u0) (h2 : H0 a = none) (h3 : Fre He a) (hc : ColR S.K H0 a c' u) :
    Rl S (env.set i (.oc c')) g σ He H0e H0 (upd H a u) := by
  obtain ⟨f', rfl⟩ := hc.ext
  obtain ⟨f, rfl⟩ := h0.ext
  have A := (R.aft (Aft.refl R)).wrtE (u := .ext f') h3 h2 h1 (fun q z => h0.code q (by rw [h1] at z; exact Option.some.inj z)) (fun ps z => by cases z)
  have hi : i < env.length := (List.getElem?_eq_some_iff.mp e0).1
  refine ⟨A.stp, A.sub, A.gen, R.ngen, A.tabs, R.ntbl, fun j s e => ?_, fun j k b hne k1 k2 k3 => ?_⟩
  · by_cases hj : j = i
    · subst hj
      rw [List.getElem?_set_self hi] at e
      cases e
      exact ⟨_, e1, a, _, rfl, upd_same, h2, h3, hc⟩
    · rw [List.getElem?_set_ne (Ne.symm hj)] at e
      obtain ⟨o, l1, l2⟩ := R.slots j s e
      refine ⟨o, l1, ?_⟩
      cases s with
      | un => trivial
      | fz d => exact l2
      | gn => exact l2
      | sc _ => exact l2
      | ow es2 =>
        obtain ⟨b, ys, m1, m2, m3, m4, m5⟩ := l2
        subst m1
        have nb : b ≠ a := fun z => by
          subst z
          exact R.own i j b (Ne.symm hj) (.inr ⟨_, e0⟩) (.inl ⟨_, e⟩) e1 l1
        exact ⟨b, ys, rfl, by rw [upd_ne nb]; exact m2, m3, m4, m5⟩
      | oc c2 =>
        obtain ⟨b, u2, m1, m2, m3, m4, m5⟩ := l2
        subst m1
        have nb : b ≠ a := fun z => by
          subst z
          exact R.own i j b (Ne.symm hj) (.inr ⟨_, e0⟩) (.inr ⟨_, e⟩) e1 l1
        exact ⟨b, u2, rfl, by rw [upd_ne nb]; exact m2, m3, m4, m5⟩
  · have nj : ∀ {m : Nat}, Own (env.set i (.oc c')) m → Own env m := fun {m} q => by
      by_cases hm : m = i
      · subst hm; exact .inr ⟨_, e0⟩
      · exact q.other hm
    exact R.own j k b hne (nj k1) (nj k2) k3
end
section
variable {X : Cx} {S : Sig} {W : WX} {C : Cfg} {F : Fns} {N : Nat}
/-- x = set() -/
theorem st_newS {x : Str} {i : Nat} {p pc pos pos' : Pos} (G : Gd X S W C F) (K : StOk X C) (hi : C.slot x = some i) (hg : glB C.sc "set" = true) : SS X S W F N (.Assign [.Name x pos'] (.Call (.Name "set" p) [] [] pc) pos) (.newS i) := by
  have nd : X.N.Nodup := by rw [G.hN]; exact G.nd
  obtain ⟨k1, k2, k3⟩ := K x i hi
  have he := pe_callTy0 (p := p) (pos := pc) (cr_set0N (X := X)) (gl_of G.hsc hg) (G.blt _ (by simp [bltNames])) (by decide +kernel)
  refine PS.weak (ps_set nd k1 k2 he rfl k3) fun D σ H q => ?_
  obtain ⟨env, g, He, H0e, H0, R, q⟩ := q
  simp only [exS] at q
  refine ⟨rfl, fun a hp => ?_⟩
  split at q
  · rename_i hz
    have a1 : Aft S g H0 H H0 (upd H a (SetN X.w a [])) := Aft.grow R.sub R.gen R.tabs hp
    have R1 := R.step a1
    refine q _ H0 _ (R1.setC (c := .set []) hz upd_same (R.sub.free hp) (R.he (.inl hp)) ⟨[], ?_, (fun p hp => nomatch hp), .nil⟩ fun j b ho hj e2 => R.own_ne (.inl hp) ho e2) (Same.refl _)
    rw [← G.kx]
    rfl
  · exact q.elim
theorem mem_any {ps : List AD} {ds : List PD.D} {d : PD.D} (ok : ∀ p ∈ ps, (tkey p.2).isSome = true) (hd : (tkey d).isSome = true) (pm : (ps.map fun p => p.2).Perm ds) : kOf d ∈ (kL ps).map (·.2) ↔ (ds.any fun q => PyData.eqv q d) = true := by
  rw [List.any_eq_true]
  unfold kL
  rw [List.map_map]
  constructor
  · intro h
    obtain ⟨p, hp, e⟩ := List.mem_map.mp h
    exact ⟨p.2, pm.mem_iff.mp (List.mem_map.mpr ⟨p, hp, rfl⟩), (kOf_eqv (ok p hp) hd).mpr e⟩
  · rintro ⟨q, hq, e⟩
    obtain ⟨p, hp, rfl⟩ := List.mem_map.mp (pm.mem_iff.mpr hq)
    exact List.mem_map.mpr ⟨p, hp, (kOf_eqv (ok p hp) hd).mp e⟩
/-- x.add(e), x an own set -/
theorem st_ad {x m : Str} {i : Nat} {e : Expr} {c : E} {p apos cpos pos : Pos} (G : Gd X S W C F) (hm : m = "add") (hv : C.var x = some i) (he : SE X S W F e c) (hline : (apos.endLine == cpos.line) = true) :
    SS X S W F N (.Expr (.Call (.Attribute (.Name x p) m apos) [e] [] cpos) pos) (.ad i c) := by
  subst hm
  have vis : PE X (.Name x p) (tVar i) := by
    unfold Cfg.var at hv
    split at hv
    · rename_i hc
      rw [Bool.and_eq_true] at hc
      obtain ⟨d1, d2⟩ := dbg_of hc.2
      exact pe_var (i := i) (by rw [G.hN]; exact ixOf_get hv) (by rw [G.hsc]; exact vis_of hc.1) d1 d2
    · cases hv
  have pa : PA X [e] (tCons (RE S W (ev F c)) tNil) := pa_cons he.pe pa_nil (he.ns _ _)
  have hu : X.A.units + 100 < cLine := by have := G.room.un; omega
  refine PS.weak (ps_expr (pe_saddN G.sys hu vis pa rfl (by
    rw [he.ns]
    rfl) hline (he.ns _ _)) rfl) fun D σ H q => ?_
  obtain ⟨env, g, He, H0e, H0, R, q⟩ := q
  simp only [exS] at q
  cases e0 : env[i]? with
  | none => rw [e0] at q; exact q.elim
  | some s =>
    rw [e0] at q
    cases s with
    | un => exact q.elim
    | fz _ => exact q.elim
    | gn => exact q.elim
    | sc _ => exact q.elim
    | ow _ => exact q.elim
    | oc cc =>
      cases cc with
      | dct _ => exact q.elim
      | set ds =>
        obtain ⟨o, e1, a, u, e2, e3, e4, e5, e6⟩ := R.slots i _ e0
        subst e2
        obtain ⟨ps0, rfl, _⟩ := id e6
        rw [G.kx]
        refine ⟨.ref a, e1, ⟨a, kL ps0, rfl, ?_⟩, ?_⟩
        · rw [e3, ← G.kx]
        refine ⟨env, g, He, H0e, H0, R, PstS.bd R q fun y g1 v H1 H1' a1 r1 h1 => ?_⟩
        have R1 := R.step a1
        cases y with
        | gn => exact h1.elim
        | sc _ => exact h1.elim
        | co _ => exact h1.elim
        | bo _ => exact h1.elim
        | d d =>
          obtain ⟨o', f1, a', u', f2, f3, f4, f5, f6⟩ := R1.slots i _ e0
          rw [e1] at f1
          cases f1
          cases f2
          obtain ⟨ps, rfl, ok, pm⟩ := id f6
          have hq : PstS S W He H0e H0 D (((M.ofO (addS ds d)).bd fun es => .pu (.nx (env.set i (.oc (.set es))))) g1) := h1
          cases ea : addS ds d with
          | none => rw [ea] at hq; exact hq.elim
          | some es =>
            rw [ea] at hq
            unfold addS at ea
            split at ea
            · rename_i hz
              obtain ⟨hk, hl⟩ := hz
              have ea := Option.some.inj ea
              obtain ⟨k, hk'⟩ := Option.isSome_iff_exists.mp hk
              obtain ⟨⟨zs, rfl⟩, _, _⟩ := tkey_inv hk'
              obtain ⟨b, xs, rfl, t1, t2⟩ := (show Dr S.K H1 v (.tuple zs) from r1).tup_inv
              have r1 : Dr S.K H1 (.ref b) (.tuple zs) := r1
              have okb : OkL S.K H1 ((b, .tuple zs) :: ps) := fun p hp => by
                rcases List.mem_cons.mp hp with rfl | hp
                · exact ⟨hk, r1⟩
                · exact ok p hp
              have lp : ps.length = ds.length := by
                have := pm.length_eq
                simpa using this
              have mm := mem_any (fun p hp => (ok p hp).1) hk pm
              have fin : ∀ qs : List AD, OkL S.K H1 qs → (qs.map fun p => p.2).Perm es → D.nx σ (upd H1' a (SetN S.K.w a (kL qs))) := fun qs oq pq =>
                hq σ H1 _ (R1.upC e0 e1 f3 f6 f4 f5 ⟨qs, rfl, oq, pq⟩) a1.stp.s0
              refine ⟨a, ps, (b, .tuple zs), rfl, rfl, ?_, ?_, by rw [lp]; exact hl, fun m => ?_, fun m qs pq => ?_⟩
              · rw [f3]
                first | rfl | (rw [← G.kx])
              · intro p hp
                exact ⟨(okb p hp).1, (okb p hp).2.same R1.sub⟩
              · rw [if_pos (mm.mp m)] at ea
                subst ea
                have := fin ps ok pm
                first | exact this | (rw [← G.kx] at this; exact this)
              · rw [if_neg (fun z => m (mm.mpr z))] at ea
                subst ea
                have := fin qs (fun p hp => okb p (pq.mem_iff.mp hp)) ((pq.map _).trans (by
                  rw [List.map_cons]
                  exact (pm.cons _).trans (List.perm_append_comm (l₁ := [_]))))
                first | exact this | (rw [← G.kx] at this; exact this)
            · cases ea
/-- {} -/
theorem pe_dctN0 {X : Cx} {pos : Pos} : PE X (.Dict [] [] pos) (fun σ H Q => ∀ p, H p = none → Q (.ref p) (upd H p (DctN X.w p []))) := ⟨fun pins s σ H Q I h => by
  refine thn (pe_dnewK.run pins s σ H (fun v H1 => ∃ p, v = .ref p ∧ H p = none ∧ H1 = upd H p (.dK [])) I fun p hp => ⟨p, rfl, hp, rfl⟩) fun v s1 ⟨x, H1, I1, r1, p, ex, hp, e1⟩ => ?_
  subst ex e1
  have I2 := dctN_new I1 (a := p) upd_same
  rw [upd_upd] at I2
  exact ⟨.ref p, _, I2, r1, h p hp⟩⟩
/-- x = {} -/
theorem st_newD {x : Str} {i : Nat} {pc pos pos' : Pos} (G : Gd X S W C F) (K : StOk X C) (hi : C.slot x = some i) : SS X S W F N (.Assign [.Name x pos'] (.Dict [] [] pc) pos) (.newD i) := by
  have nd : X.N.Nodup := by rw [G.hN]; exact G.nd
  obtain ⟨k1, k2, k3⟩ := K x i hi
  refine PS.weak (ps_set nd k1 k2 (pe_dctN0 (pos := pc)) rfl k3) fun D σ H q => ?_
  obtain ⟨env, g, He, H0e, H0, R, q⟩ := q
  simp only [exS] at q
  intro a hp
  split at q
  · rename_i hz
    have a1 : Aft S g H0 H H0 (upd H a (DctN X.w a [])) := Aft.grow R.sub R.gen R.tabs hp
    have R1 := R.step a1
    refine q _ H0 _ (R1.setC (c := .dct []) hz upd_same (R.sub.free hp) (R.he (.inl hp)) ⟨[], ?_, (fun p hp => nomatch hp), .nil⟩ fun j b ho hj e2 => R.own_ne (.inl hp) ho e2) (Same.refl _)
    rw [← G.kx]
  · exact q.elim
theorem dv_any {K : KW} {H : Hp} {b : AD} (hb : (tkey b.2).isSome = true) : ∀ {ps : List DE} {kvs : List (PD.D × PD.D)}, Paired (DvR K H) ps kvs → (∀ p ∈ ps, (tkey p.1.2).isSome = true) → (ps.any fun p => decide (kOf p.1.2 = kOf b.2)) = kvs.any fun q => PyData.eqv q.1 b.2
  | _, _, .nil, _ => rfl
  | p :: ps, q :: kvs, .cons h t, ok => by
    rw [List.any_cons, List.any_cons, dv_any hb t fun p hp => ok p (List.mem_cons_of_mem _ hp), ← h.1]
    congr 1
    have := kOf_eqv (ok p List.mem_cons_self) hb
    by_cases e : PyData.eqv p.1.2 b.2 = true
    · rw [e, decide_eq_true (this.mp e)]
    · rw [Bool.eq_false_iff.mpr e, decide_eq_false fun z => e (this.mpr z)]
theorem dv_map {K : KW} {H : Hp} {b : AD} {v : V} {d : PD.D} (hb : (tkey b.2).isSome = true) (hv : Dr K H v d) : ∀ {ps : List DE} {kvs : List (PD.D × PD.D)}, Paired (DvR K H) ps kvs → (∀ p ∈ ps, (tkey p.1.2).isSome = true) →
    Paired (DvR K H) (ps.map fun p => if kOf p.1.2 = kOf b.2 then (p.1, v) else p) (kvs.map fun q => if PyData.eqv q.1 b.2 then (q.1, d) else q)
  | _, _, .nil, _ => .nil
  | p :: ps, q :: kvs, .cons h t, ok => by
    refine .cons ?_ (dv_map hb hv t fun p hp => ok p (List.mem_cons_of_mem _ hp))
    show DvR K H (if kOf p.1.2 = kOf b.2 then (p.1, v) else p) (if PyData.eqv q.1 b.2 then (q.1, d) else q)
    have := kOf_eqv (ok p List.mem_cons_self) hb
    by_cases e : PyData.eqv p.1.2 b.2 = true
    · rw [if_pos (this.mp e), ← h.1, if_pos e]
      exact ⟨rfl, hv⟩
    · rw [if_neg fun z => e (this.mpr z), ← h.1, if_neg e]
      exact h
theorem dv_put {K : KW} {H : Hp} {b : AD} {v : V} {d : PD.D} {ps : List DE} {kvs : List (PD.D × PD.D)} (hb : (tkey b.2).isSome = true) (hv : Dr K H v d) (h : Paired (DvR K H) ps kvs) (ok : ∀ p ∈ ps, (tkey p.1.2).isSome = true) : Paired (DvR K H) (putE ps b v) (dPut b.2 d kvs) := by
  unfold putE dPut
  rw [dv_any hb h ok]
  split
  · exact dv_map hb hv h ok
  · exact paired_app ⟨rfl, hv⟩ h
theorem dv_len {K : KW} {H : Hp} : ∀ {ps : List DE} {kvs : List (PD.D × PD.D)}, Paired (DvR K H) ps kvs → ps.length = kvs.length
  | _, _, .nil => rfl
  | _, _, .cons _ t => by simp [dv_len t]
theorem var_pe {x : Str} {i : Nat} {p : Pos} (G : Gd X S W C F) (hv : C.var x = some i) : PE X (.Name x p) (tVar i) := by
  unfold Cfg.var at hv
  split at hv
  · rename_i hc
    rw [Bool.and_eq_true] at hc
    obtain ⟨d1, d2⟩ := dbg_of hc.2
    exact pe_var (i := i) (by rw [G.hN]; exact ixOf_get hv) (by rw [G.hsc]; exact vis_of hc.1) d1 d2
  · cases hv
/-- x[k] = e, x an own dict -/
theorem st_dp {x : Str} {i : Nat} {k e : Expr} {ck ce : E} {p pos pos' : Pos} (G : Gd X S W C F) (hv : C.var x = some i) (hk : SE X S W F k ck) (he : SE X S W F e ce)
    (hs : swapsWith e (some (.Subscript (.Name x p) k pos')) pos.line X.env = pure false) : SS X S W F N (.Assign [.Subscript (.Name x p) k pos'] e pos) (.dp i ck ce) := by
  have hu : X.A.units + 100 < cLine := by have := G.room.un; omega
  refine PS.weak (ps_dputN G.sys hu (var_pe (p := p) G hv) hk.pe he.pe hs) fun D σ H q => ?_
  obtain ⟨env, g, He, H0e, H0, R, q⟩ := q
  simp only [exS] at q
  refine ⟨env, g, He, H0e, H0, R, PstS.bd R q fun y g1 v H1 H1' a1 r1 h1 => ?_⟩
  have R1 := R.step a1
  cases y with
  | gn => exact h1.elim
  | sc _ => exact h1.elim
  | co _ => exact h1.elim
  | bo _ => exact h1.elim
  | d d =>
    have h1 : PstS S W He H0e H0 D ((match env[i]? with
      | some (.oc (.dct kvs)) => (ev F ck env).bd fun y => (solid y).bd fun kd => (M.ofO (putS kvs kd d)).bd fun r => .pu (Fl.nx (env.set i (.oc (.dct r))))
      | _ => M.stuck) g1) := h1
    cases e0 : env[i]? with
    | none => rw [e0] at h1; exact h1.elim
    | some s =>
      rw [e0] at h1
      cases s with
      | un => exact h1.elim
      | fz _ => exact h1.elim
      | gn => exact h1.elim
      | sc _ => exact h1.elim
      | ow _ => exact h1.elim
      | oc cc =>
        cases cc with
        | set _ => exact h1.elim
        | dct kvs =>
          dsimp only at h1
          obtain ⟨o, e1, a, u, e2, e3, e4, e5, e6⟩ := R1.slots i _ e0
          subst e2
          refine ⟨.ref a, e1, env, g1, He, H0e, H1, R1, PstS.bd R1 (h1.mono a1.stp.s0) fun z g2 y H2 H2' a2 r2 h2 => ?_⟩
          have R2 := R1.step a2
          cases z with
          | gn => exact h2.elim
          | sc _ => exact h2.elim
          | co _ => exact h2.elim
          | bo _ => exact h2.elim
          | d kd =>
            have h2 : PstS S W He H0e H1 D (((M.ofO (putS kvs kd d)).bd fun r => .pu (Fl.nx (env.set i (.oc (.dct r))))) g2) := h2
            cases ea : putS kvs kd d with
            | none => rw [ea] at h2; exact h2.elim
            | some r =>
              rw [ea] at h2
              obtain ⟨⟨hkk, hl⟩, rfl⟩ := ifO (show (if (tkey kd).isSome = true ∧ kvs.length < sizeLine then some (dPut kd d kvs) else none) = some r from ea)
              obtain ⟨k0, hk'⟩ := Option.isSome_iff_exists.mp hkk
              obtain ⟨⟨zs, rfl⟩, _, _⟩ := tkey_inv hk'
              obtain ⟨b, xs, rfl, t1, t2⟩ := (show Dr S.K H2 y (.tuple zs) from r2).tup_inv
              have r2 : Dr S.K H2 (.ref b) (.tuple zs) := r2
              obtain ⟨o', f1, a', u', f2, f3, f4, f5, f6⟩ := R2.slots i _ e0
              rw [e1] at f1
              cases f1
              cases f2
              obtain ⟨ps, rfl, ok, pv⟩ := id f6
              have okk : ∀ p ∈ ps, (tkey p.1.2).isSome = true := fun p hp => (ok p.1 (List.mem_map.mpr ⟨p, hp, rfl⟩)).1
              have v2 : Dr S.K H2 v d := Dr.same a2.stp.s0 r1
              refine ⟨a, _, rfl, ⟨ps, (b, .tuple zs), rfl, ?_, ?_, ?_, by rw [dv_len pv]; exact hl, rfl⟩, ?_⟩
              · rw [f3]
                first | rfl | (rw [← G.kx])
              · rw [G.kx]
                exact ok.same R2.sub
              · rw [G.kx]
                intro p hp
                rw [List.mem_singleton.mp hp]
                exact ⟨hkk, r2.same R2.sub⟩
              · have := h2 σ H2 _ (R2.upC e0 e1 f3 f6 f4 f5 (c' := .dct (dPut (.tuple zs) d kvs)) (u := DctN S.K.w a (putE ps (b, .tuple zs) v)) ⟨_, rfl, ok.put ⟨hkk, r2⟩, dv_put (b := (b, .tuple zs)) hkk v2 pv okk⟩) a2.stp.s0
                first | exact this | (rw [← G.kx] at this; exact this)
end
end PD
set_option Elab.async false
set_option linter.all false
set_option maxRecDepth 100000
set_option autoImplicit false
namespace PD
open PySem PySem.Spec L2

section
variable {X : Cx} {S : Sig} {W : WX} {C : Cfg} {F : Fns} {pos : Pos} {N : Nat}
theorem intsOf {K : KW} {H : Hp} : ∀ {vs : List V} {ds : List D} {is : List Int}, DrAll K H vs ds → ds.mapM intOf = some is → vs = is.map V.int
  | _, _, is, .nil, e => by
    have e : some [] = some is := by simpa using e
    cases e; rfl
  | _, d :: ds, is, .cons r rs, e => by
    rw [List.mapM_cons] at e
    cases e1 : intOf d with
    | none => rw [e1] at e; cases e
    | some i =>
      cases e2 : ds.mapM intOf with
      | none => rw [e1, e2] at e; cases e
      | some is' =>
        rw [e1, e2] at e
        have e3 : i :: is' = is := Option.some.inj e
        subst e3
        have h := intsOf rs e2
        subst h
        unfold intOf at e1
        split at e1
        · cases e1; cases r; rfl
        · cases e1
/-- the drawing's dict is written -/
theorem Rl.gset {S : Sig} {env : Env} {g g' : Gen} {σ : L2.St} {He H0e H0 H : Hp} (R : Rl S env g σ He H0e H0 H) {q : Addr} {k : Str} {v : V} {d : D} (hq : S.gm = some q) (e : gSet k d g = some g') (hv : Dr S.K H0 v d) :
    ∃ kvs, H q = some (.dK kvs) ∧ kvs.length < sizeLine ∧ Rl S env g' σ He H0e H0 (upd H q (.dK (putK kvs (.inr k) v))) := by
  obtain ⟨gl, g1, g2⟩ := R.gen q hq
  have g3 : ∀ b u, H b = some u → (∀ kvs, u ≠ .dK kvs) → b ≠ q := fun b u h n z => by
    rw [z, g1] at h
    exact n _ (Option.some.inj h).symm
  have key : GenP q g' H0 (upd H q (.dK (putK [(.inr "great", .ref gl), (.inr "seed", .int g.seed), (.inr "turns", .int g.turns)] (.inr k) v))) := by
    unfold gSet at e
    split at e
    · rename_i hk
      subst hk
      split at e
      · rename_i ds
        obtain ⟨is, h1, rfl⟩ := mapS e
        obtain ⟨b, xs, rfl, h2, h3⟩ := hv.lst_inv
        exact ⟨b, upd_same, by rw [h2, intsOf h3 h1]⟩
      · cases e
    · split at e
      · rename_i hk
        subst hk
        obtain ⟨i, h1, rfl⟩ := mapS e
        unfold intOf at h1
        split at h1
        · cases h1; cases hv; exact ⟨gl, upd_same, g2⟩
        · cases h1
      · split at e
        · rename_i hk
          subst hk
          obtain ⟨i, h1, rfl⟩ := mapS e
          unfold intOf at h1
          split at h1
          · cases h1; cases hv; exact ⟨gl, upd_same, g2⟩
          · cases h1
        · cases e
  refine ⟨_, g1, by simp [sizeLine_eq], ⟨⟨R.stp.s0, fun b o h n t => ?_, fun b h => ?_, R.stp.fresh, R.stp.nt⟩, fun b u h => ?_, fun p hp => ?_, R.ngen, fun p hp => ?_, R.ntbl, fun i s h => ?_, R.own⟩⟩
  · rw [upd_ne (fun z => n (by rw [hq, z]))]; exact R.stp.fr b o h n t
  · refine R.stp.th b ?_
    by_cases z : b = q
    · subst z
      unfold Fre at h
      rw [upd_same] at h
      rcases h with h | ⟨ps, h⟩ <;> cases h
    · unfold Fre at h ⊢
      rw [upd_ne z] at h; exact h
  · rw [upd_ne (fun z => by rw [z, R.ngen q hq] at h; cases h)]; exact R.sub b u h
  · rw [hq] at hp
    cases hp
    exact key
  · obtain ⟨ps, k1, k2, k3⟩ := R.tabs p hp
    refine ⟨ps, by rw [upd_ne (g3 _ _ k1 (fun _ z => by cases z))]; exact k1, k2, fun pos cv h => ?_⟩
    obtain ⟨c, e3, e4⟩ := k3 pos cv h
    refine ⟨c, e3, ?_⟩
    rw [upd_ne (g3 _ _ e4 (fun _ z => by unfold LamX.CodeO at z; cases z))]
    exact e4
  · obtain ⟨o, h1, h2⟩ := R.slots i s h
    refine ⟨o, h1, ?_⟩
    cases s with
    | ow ds =>
      obtain ⟨a, xs, m1, m2, m3⟩ := h2
      exact ⟨a, xs, m1, by rw [upd_ne (g3 _ _ m2 (fun _ z => by cases z))]; exact m2, m3⟩
    | oc c =>
      obtain ⟨a, u, m1, m2, m3, m4, m5⟩ := h2
      obtain ⟨f, rfl⟩ := m5.ext
      exact ⟨a, _, m1, by rw [upd_ne (g3 _ _ m2 (fun _ z => by cases z))]; exact m2, m3, m4, m5⟩
    | _ => exact h2
/-- m['key'] = e -/
theorem st_gput {x k : Str} {i j : Nat} {p p2 p3 : Pos} {e : Expr} {c : E} (G : Gd X S W C F) (hv : C.var x = some i) (he : SE X S W F e c)
    (hs : swapsWith e (some (.Subscript (.Name x p) (.Constant (.str k) j p3) p2)) pos.line X.env = pure false) :
    SS X S W F N (.Assign [.Subscript (.Name x p) (.Constant (.str k) j p3) p2] e pos) (.gput i k c) := by
  have hu : X.A.units + 1 < cLine := by have := G.room.un; omega
  refine PS.weak (ps_dput hu (s_varP G hv) pe_str he.pe hs) fun D σ H q => ?_
  obtain ⟨env, g, He, H0e, H0, R, q⟩ := q
  simp only [exS] at q
  refine ⟨env, g, He, H0e, H0, R, PstS.bd R q fun y g1 v H1 H1' a1 r1 h1 => ?_⟩
  have R1 := R.step a1
  cases y with
  | gn => exact h1.elim
  | sc _ => exact h1.elim
  | co _ => exact h1.elim
  | bo _ => exact h1.elim
  | d d =>
    have h1 : PstS S W He H0e H0 D (gpD env[i]? k d env g1) := h1
    unfold gpD at h1
    cases e1 : env[i]? with
    | none => rw [e1] at h1; exact h1.elim
    | some s =>
      rw [e1] at h1
      obtain ⟨o, e2, e3⟩ := R1.slots i _ e1
      cases s with
      | gn =>
        obtain ⟨q, e4, e5⟩ := e3
        subst e5
        dsimp only at h1
        cases e6 : gSet k d g1 with
        | none => rw [e6] at h1; exact h1.elim
        | some g2 =>
          rw [e6] at h1
          obtain ⟨kvs, k1, k2, R2⟩ := R1.gset e4 e6 r1
          exact ⟨_, e2, q, _, rfl, .inl ⟨kvs, .inr k, k1, rfl, k2, rfl⟩, h1 σ H1 _ R2 a1.stp.s0⟩
      | _ => exact h1.elim
end
end PD
set_option Elab.async false
set_option linter.all false
set_option maxRecDepth 100000
set_option autoImplicit false
namespace PD
open PySem PySem.Spec L2

/-! ### where an own list gets out -/
def vals : E → List Nat
  | .v i => [i]
  | .ite _ a b => vals a ++ vals b
  | .and a b => vals a ++ vals b
  | .or a b => vals a ++ vals b
  | _ => []
mutual
def esc : E → List Nat
  | .bin _ a b => esc a ++ esc b
  | .neg a => esc a
  | .cmp _ a b => esc a ++ esc b
  | .chain _ _ a b c => esc a ++ (esc b ++ esc c)
  | .and a b => esc a ++ esc b
  | .or a b => esc a ++ esc b
  | .not a => esc a
  | .ite t a b => esc t ++ (esc a ++ esc b)
  | .tup es => escs es
  | .lst es => escs es
  | .ix a b => esc a ++ esc b
  | .sl a _ _ => esc a
  | .bf _ es => escB es
  | .call _ es => escs es
  | .lc _ it t e _ => escI it ++ (escO t ++ (vals e ++ esc e))
  | .said e => esc e
  | .dict _ es => escs es
  | .tups es e => escs es ++ esc e
  | .idx _ e => esc e
  | .idl a e => esc a ++ esc e
  | .sset a => esc a
  | .u1 _ a => esc a
  | .gt a e => esc a ++ esc e
  | _ => []
termination_by structural e => e
def escs : List E → List Nat
  | [] => []
  | e :: es => vals e ++ (esc e ++ escs es)
termination_by structural e => e
def escB : List E → List Nat
  | [] => []
  | e :: es => esc e ++ escB es
termination_by structural e => e
def escO : Option E → List Nat
  | none => []
  | some e => esc e
termination_by structural e => e
def escI : I → List Nat
  | .e e => esc e
  | .rng1 a => esc a
  | .rng2 a b => esc a ++ esc b
  | .enum a => esc a
termination_by structural e => e
end
def valsI : I → List Nat
  | .e e => vals e
  | .enum e => vals e
  | _ => []
/-! ### from the text to statements -/
def Cfg.own (C : Cfg) (L : List Str) : List Nat := L.filterMap C.slot
def wrap (C : Cfg) (L : List Str) (is : List Nat) (s : Sm) : Sm := match (is.filter fun i => decide (i ∈ C.own L)).eraseDups with
  | [] => s
  | js => .fr js s
def lk (sc : Scope) (x : Str) : Bool := match sc.names.lookup x with
  | some .local => true
  | _ => false
def fnK (sc : Scope) : Bool := match sc.kind with
  | .function => true
  | _ => false
def stars (vs : List Expr) : Bool := vs.any fun | .Starred .. => true | _ => false
def isTupE : Expr → Bool
  | .Tuple _ _ _ => true
  | _ => false
def noComp : Expr → Bool
  | .ListComp _ _ _ _ => false
  | .SetComp _ _ _ _ => false
  | .DictComp _ _ _ _ _ => false
  | _ => true
def cPar2 (C : Cfg) (x y : Str) (px py : Pos) (a b : Expr) : Option Sm :=
  if fnK C.sc && lk C.sc x && lk C.sc y && (py.line == px.line) && decide (x ≠ y) && !(stars [a, b]) && !([a, b].all (foldedForSure 8)) && !([a, b].all (constantsAlone 8)) then
    (C.slot x).bind fun i => (C.slot y).bind fun j => (cE C a).bind fun ca => (cE C b).bind fun cb => if i ≠ j then some (.par [i, j] [ca, cb]) else none
  else none
def cPar3 (C : Cfg) (x y z : Str) (px py pz : Pos) (a b c : Expr) : Option Sm :=
  if fnK C.sc && lk C.sc x && lk C.sc y && lk C.sc z && (py.line == px.line) && (pz.line == px.line) && decide (x ≠ y) && decide (x ≠ z) && decide (y ≠ z) && !(stars [a, b, c]) && !([a, b, c].all (foldedForSure 8)) && !([a, b, c].all (constantsAlone 8)) then
    (C.slot x).bind fun i => (C.slot y).bind fun j => (C.slot z).bind fun l => (cE C a).bind fun ca => (cE C b).bind fun cb => (cE C c).bind fun cc => if i ≠ j ∧ i ≠ l ∧ j ≠ l then some (.par [i, j, l] [ca, cb, cc]) else none
  else none
def cSet (C : Cfg) (L : List Str) (x : Str) (e : Expr) : Option Sm := (C.slot x).bind fun i =>
  if x ∈ L then (match e with
    | .List es _ => (cEs C es).map fun cs => .asgF i (.lst cs)
    | .BinOp a .Add b _ => (cE C a).bind fun a => (cE C b).map fun b => .asgF i (.bin .Add a b)
    | .Call (.Name g _) [] [] _ => if g = "set" ∧ glB C.sc g = true ∧ (fnIx C.fns g 0).isNone = true then some (.newS i) else none
    | .Dict [] [] _ => some (.newD i)
    | .ListComp elt gs sc p => (cE C (.ListComp elt gs sc p)).map fun c => .asgF i c
    | e => (cE C e).map fun c => .asg (.n i) c)
  else (cE C e).map fun c => .asg (.n i) c
def foldT : Expr → Bool
  | .Tuple vs _ _ => vs.all (foldedForSure 8)
  | _ => false
/-- a target that is no plain local of the frame -/
def outT (C : Cfg) (ts : List Expr) : Bool := ts.any fun | .Name x _ => !lk C.sc x | _ => false
def cTup (C : Cfg) (ts : List Expr) (k : Nat) (pt : Pos) (e : Expr) : Option Sm := if foldT e || outT C ts then (cTg C (.Tuple ts k pt)).bind fun t => (cE C e).map fun c => .asg t c else match e with
  | .Tuple [a, b] _ _ => (match ts with
    | [.Name x px, .Name y py] => cPar2 C x y px py a b
    | _ => none)
  | .Tuple [a, b, c] _ _ => (match ts with
    | [.Name x px, .Name y py, .Name z pz] => cPar3 C x y z px py pz a b c
    | _ => none)
  | e => if (!isTupE e) || !(ts.length == 2 || ts.length == 3) then (cTg C (.Tuple ts k pt)).bind fun t => (cE C e).map fun c => .asg t c else none
def smE : Sm → List Nat
  | .asg _ e => vals e ++ esc e
  | .par _ es => escs es
  | .asgF _ e => esc e
  | .ap _ e => vals e ++ esc e
  | .ex _ e => esc e
  | .ret e => vals e ++ esc e
  | .iff t _ _ => esc t
  | .for_ _ it _ => valsI it ++ escI it
  | .whl t _ => esc t
  | .raise _ e => vals e ++ esc e
  | .expr e => esc e
  | .gput _ _ e => vals e ++ esc e
  | .parF _ _ e es => vals e ++ (esc e ++ escs es)
  | .ad _ e => vals e ++ esc e
  | .dp _ k e => vals e ++ (esc e ++ (vals k ++ esc k))
  | .tryE _ e _ => esc e
  | _ => []
def cAp (C : Cfg) (L : List Str) (x m : Str) (apos cpos : Pos) (e : Expr) : Option Sm :=
  if x ∈ L ∧ m = "append" ∧ (apos.endLine == cpos.line) = true then (C.var x).bind fun i => (cE C e).map fun c => .ap i c
  else if x ∈ L ∧ m = "extend" ∧ (apos.endLine == cpos.line) = true then (C.var x).bind fun i => (cE C e).map fun c => .ex i c
  else if x ∈ L ∧ m = "add" ∧ (apos.endLine == cpos.line) = true then (C.var x).bind fun i => (cE C e).map fun c => .ad i c else none
def cGp (C : Cfg) (x k : Str) (e : Expr) : Option Sm :=
  if x ∈ C.gs ∧ noComp e = true then (C.var x).bind fun i => (cE C e).map fun c => .gput i k c else none
def cGpE (C : Cfg) (o i e : Expr) : Option Sm := match o, i with
  | .Name x _, .Constant (.str k) _ _ => cGp C x k e
  | _, _ => none
/-- x[k] = e, x an own dict -/
def cDp (C : Cfg) (L : List Str) (o k e : Expr) : Option Sm := match o with
  | .Name x _ => if x ∈ L ∧ noComp e = true then (C.var x).bind fun i => (cE C k).bind fun ck => (cE C e).map fun ce => .dp i ck ce else none
  | _ => none
/-- an error's class whose attribute is the place -/
def placeC (c : Str) : Bool := decide (c ∈ (["BadSetup", "BadStanding", "BadPlay", "BadRow", "BadPaper", "BadLog", "BadText"] : List Str))
def cTryE (C : Cfg) (e : Expr) (c n n' at_ : Str) : Option Sm := if (placeC c = true ∧ c ∈ C.excs ∧ glB C.sc c = true) ∧ n' = n ∧ at_ = "place" ∧ lk C.sc n = true ∧ dbg n = false ∧ C.lam = false ∧ noComp e = true then
  (C.slot n).bind fun i => (cE C e).map fun ce => .tryE i ce c else none
/-- try: e, except C as n: return n.place -/
def cTry (C : Cfg) (b : List Stmt) (hs : List ExceptHandler) (oe fin : List Stmt) : Option Sm := match b, hs, oe, fin with
  | [.Expr e _], [.ExceptHandler (some (.Name c _)) (some n) [.Return (some (.Attribute (.Name n' _) at_ _)) _] _], [], [] => cTryE C e c n n' at_
  | _, _, _, _ => none
/-- a, b = e, [..], b an own list, a a cell -/
def cParF (C : Cfg) (L : List Str) (ts : List Expr) (e : Expr) : Option Sm := match ts, e with
  | [.Name x px, .Name y py], .Tuple [a, .List es _] _ _ => if y ∈ L ∧ outT C [.Name x px, .Name y py] = true then (C.slot x).bind fun i => (C.slot y).bind fun j => (cE C a).bind fun ca => (cEs C es).bind fun ces => if i ≠ j then some (.parF i j ca ces) else none else none
  | _, _ => none
mutual
def cS (C : Cfg) (L : List Str) : Stmt → Option Sm
  | .Assign [.Name x _] e _ => (cSet C L x e).map fun s => wrap C L (smE s) s
  | .Assign [.Subscript o i _] e _ => ((cGpE C o i e).or (cDp C L o i e)).map fun s => wrap C L (smE s) s
  | .Try b hs oe fin _ => (cTry C b hs oe fin).map fun s => wrap C L (smE s) s
  | .Assign [.Tuple ts k pt] e _ => ((cParF C L ts e).or (cTup C ts k pt e)).map fun s => wrap C L (smE s) s
  | .Return none _ => some .retN
  | .Return (some e) _ => (cE C e).map fun c => wrap C L (vals c ++ esc c) (.ret c)
  | .If t a b _ => (cE C t).bind fun ct => (cSs C L a).bind fun ca => (cSs C L b).map fun cb => wrap C L (esc ct) (.iff ct ca cb)
  | .While t b [] _ => (cE C t).bind fun ct => (cSs C L b).map fun cb => wrap C L (esc ct) (.whl ct cb)
  | .For tg iter b [] _ => (mkI C tg iter).bind fun it => (cTg C tg).bind fun t => (cSs C L b).map fun cb => wrap C L (valsI it ++ escI it) (.for_ t it cb)
  | .Raise (some (.Call (.Name x _) [e] [] _)) none _ => if x ∈ C.excs ∧ glB C.sc x = true then (cE C e).map fun c => wrap C L (vals c ++ esc c) (.raise x c) else some .bad
  | .Pass _ => some .nop
  | .Break _ => some .brk
  | .Continue _ => some .cont
  | .Expr (.Constant (.str _) _ _) _ => some .nop
  | .Expr (.Call (.Attribute (.Name x _) m apos) [e] [] cpos) _ => (cAp C L x m apos cpos e).map fun s => wrap C L (smE s) s
  | .Expr e _ => if noComp e then (cE C e).map fun c => wrap C L (esc c) (.expr c) else none
  | _ => none
termination_by structural s => s
def cSs (C : Cfg) (L : List Str) : List Stmt → Option (List Sm)
  | [] => some []
  | s :: r => (cSs C L r).map fun b => (cS C L s).getD .bad :: b
termination_by structural s => s
end
end PD
set_option Elab.async false
set_option linter.all false
set_option maxRecDepth 100000
set_option autoImplicit false
namespace PD
open PySem PySem.Spec L2

/-! ### a telling with one clause a class -/
abbrev Clause := Value × Bool × (Addr → Value → Option Addr → TS)
def eD (i : Nat) (D : Ends) : Ends := { nx := fun σ' H' => D.nx (σ'.set i none) H', rt := D.rt, bk := fun σ' H' => D.bk (σ'.set i none) H', ct := fun σ' H' => D.ct (σ'.set i none) H' }
def wChain (K : PySem.W.Frag) (i : Nat) (Wout : WX) (D : Ends) : List Clause → WX
  | [] => Wout
  | (c, nm, ts) :: r => fun cls d σ H => ∃ b, PySem.W.exmOne K cls c = some b ∧ (b = true → ∀ a, H a = none → ts a cls d (if nm then eD i D else D) (if nm then σ.set i (some (.ref a)) else σ) H) ∧ (b = false → wChain K i Wout D r cls d σ H)
inductive HdsC (X : Cx) (n : Str) : List ExceptHandler → List Clause → Prop
  | nil : HdsC X n [] []
  | bare {x : Str} {c : Value} {ts : Addr → Value → Option Addr → TS} {b₀ : Stmt} {suite : List Stmt} {np pos' : Pos} {hds : List ExceptHandler} {l : List Clause} (hc : Names X x c)
      (hsu : ∀ (a : Addr) (oe : Obj) (cls : Value) (d : Option Addr) (pn : List (Addr × Obj)), Zc cls d oe → (∃ vs, oe.data = .fields vs) → PSs (X.suite a ((a, oe) :: pn)) (b₀ :: suite) (ts a cls d)) (r : HdsC X n hds l) :
      HdsC X n (.ExceptHandler (some (.Name x np)) none (b₀ :: suite) pos' :: hds) ((c, false, ts) :: l)
  | named {x : Str} {c : Value} {ts : Addr → Value → Option Addr → TS} {b₀ : Stmt} {suite : List Stmt} {np pos' : Pos} {hds : List ExceptHandler} {l : List Clause} (hc : Names X x c)
      (hsu : ∀ (a : Addr) (oe : Obj) (cls : Value) (d : Option Addr) (pn : List (Addr × Obj)), Zc cls d oe → (∃ vs, oe.data = .fields vs) → PSs (X.suite a ((a, oe) :: pn)) (b₀ :: suite) (ts a cls d)) (r : HdsC X n hds l) :
      HdsC X n (.ExceptHandler (some (.Name x np)) (some n) (b₀ :: suite) pos' :: hds) ((c, true, ts) :: l)
section
variable {X : Cx} {n : Str} {i : Nat} {body : List Stmt} {h₀ : ExceptHandler} {hds : List ExceptHandler} {l : List Clause} {pos : Pos} {tb : WX → TS} {Wout : WX}
theorem ps_try_chain (hs : X.stack = X.env :: X.outer) (hf : X.env.frame = some X.env.locals) (hN : X.N.Nodup) (hi : X.N[i]? = some n) (hln : X.env.kindOf n = some .local) (tk : Takes X Wout)
    (hb : ∀ (W : WX) (pn : List (Addr × Obj)) (xe : Value → Shared → Prop), Takes (X.tr pn xe) W → PassesOwn (model X.prog X.w) X.A X.env xe → PSs (X.tr pn xe) body (tb W))
    (hh : HdsC X n (h₀ :: hds) l) : PS X (.Try body (h₀ :: hds) [] [] pos) (fun D σ H => tb (wChain X.K i Wout D l) D σ H) := by
  refine ⟨fun pins s σ H D I h => ?_⟩
  have ok := I.ok
  have hfr : X.A.frames = some (X.env :: X.outer) := by rw [ok.frames, hs]
  have hloc : Loc X.env.scope n := .inl hln
  refine wpAny_Try_except ?_
  refine wpAny_mono ((hb (wChain X.K i Wout D l) (X.pn ++ pins) (fun e s₁ => wpAny (model X.prog X.w) X.A (noteFrame e X.env) (fun _ s₂ => wpAny (model X.prog X.w) X.A (setFlight e none) (fun _ s₃ =>
    wpAny (model X.prog X.w) X.A (handleBy e X.env (h₀ :: hds)) (SP X pins D) X.xe s₃) X.xe s₂) X.xe s₁) (fun u s' xx => ?_) PassesOwn.looking).run [] s σ H D (I.toTry _) h) (fun f s1 hsp => ?_) (fun e s1 he => he)
  · obtain ⟨a, B, sI, pins', σ', H', cls, d, rfl, J', nb, up, sky, na, os, ag, w⟩ := xx
    have J : Inv X pins σ' H' sI := J'.ofTry ok
    have sky' : Sky B (X.env :: X.outer) a (Zc cls d) X.env.locals s'.heap := by rw [← hs]; exact sky
    show wpAny (model X.prog X.w) X.A (noteFrame (.ref a) X.env) _ _ _
    refine Sky.land Zc.steady hfr hf sky' fun h3 fl3 up3 => ?_
    have J3 : Inv X pins σ' H' { s' with heap := h3 } := J.landed nb fl3.1 (up.trans up3) os ag
    obtain ⟨oe3, vs3, he3, hz3, hd3⟩ := fl3.there
    have notFr : ∀ {h : Heap} {o : Obj} {vs : Array Value}, h.FunFrames B (X.env :: X.outer) → h.get? a = some o → o.data = .fields vs → a ∉ frs (X.env :: X.outer) := fun {h o vs} ff e dd hm => by
      obtain ⟨_, o', e', hnf⟩ := ff.mem hm
      rw [e] at e'; cases e'
      exact hnf _ dd
    have nfr := notFr fl3.2.2.1 he3 hd3
    have nL : a ≠ X.env.locals := fun z => nfr (List.mem_filterMap.mpr ⟨X.env, List.mem_cons_self, by rw [hf, z]⟩)
    have nF : a ∉ X.fs := fun hm => by
      obtain ⟨e, he, q⟩ := List.mem_filterMap.mp hm
      exact nfr (List.mem_filterMap.mpr ⟨e, List.mem_cons_of_mem _ he, q⟩)
    have S3 := J3.suite he3 hd3 na nL nF
    have LT : PySem.W.Looks (model X.prog X.w) h3 (typeOf (.ref a)) cls := fun A Q E s k q => wpAny_typeOf_ref (k _ _ he3) (by rw [hz3.1]; exact q)
    have test : ∀ {x : Str} {c : Value} {np : Pos} {Q : Value → Shared → Prop} {E : Value → Shared → Prop}, Names X x c → Q c { s' with heap := h3 } → wpAny (model X.prog X.w) (X.A.mark (some (.ref a))) (eval (.Name x np) X.env) Q E { s' with heap := h3 } := fun {x c np Q E} hc q => by
      obtain ⟨hg, hdbg, hm | ⟨hm, hv, hnn⟩⟩ := hc
      · exact ld_glob (X := X.suite a ((a, oe3) :: (X.pn ++ pins))) S3 hg hm q hdbg
      · exact ld_blt (X := X.suite a ((a, oe3) :: (X.pn ++ pins))) S3 hg hm hv q hnn hdbg
    have go : ∀ {hds' : List ExceptHandler} {l' : List Clause}, HdsC X n hds' l' → wChain X.K i Wout D l' cls d σ' H' →
        wpAny (model X.prog X.w) X.A (handleBy (.ref a) X.env hds') (SP X pins D) X.xe { s' with heap := h3 } := by
      intro hds' l' hk
      induction hk with
      | nil =>
        intro w
        refine wpAny_handleBy_nil ?_
        obtain ⟨k1, k2, k3, oe, vs, T, oT, ts', he, hz, hd, h1, hr⟩ := id fl3
        unfold PySem.passOn
        refine wpAny_bind (wpAny_field he hd h1 ?_)
        rw [if_neg (show ¬ ((Value.ref T == Value.none) = true) from by simp)]
        have fin : wpAny (model X.prog X.w) X.A (setFlight (.ref a) X.env.frame) (fun _ s4 => wpAny (model X.prog X.w) X.A (throw (.ref a) : Sem Flow) (SP X pins D) X.xe s4) X.xe { s' with heap := h3 } := by
          rw [hf]
          refine HandSPX.setFlight_upZ fl3 fun h4 hh4 up4 => wpAny_throw (tk _ _ ?_)
          exact ⟨a, B, sI, pins, σ', H', cls, d, rfl, J, nb, (up.trans up3).trans up4, .inr (.inr (by rw [hs]; exact hh4)), na, os, ag, w⟩
        first
          | exact wpAny_bind (wpAny_pure (wpAny_bind fin))
          | exact wpAny_bind fin
      | @bare x c ts b₀ suite np pos' hds2 l2 hc hsu r ih =>
        intro w
        obtain ⟨b, hb1, hyes, hno⟩ := w
        refine wpAny_handleBy_cons (codeAny_handlers_test ?_) (by intro q; cases q)
        have LM := PySem.W.exm_one (M := model X.prog X.w) (J3.kIn) LT hb1
        refine test hc (LM.here ?_)
        cases b with
        | true =>
          refine codeAny_handlers_suite ?_
          refine HandSPX.lands_againZ fl3 fun h4 fl4 up4 => ?_
          have J4 : Inv X pins σ' H' { s' with heap := h4 } := J.landed nb fl4.1 ((up.trans up3).trans up4) os ag
          obtain ⟨oe4, vs4, he4, hz4, hd4⟩ := fl4.there
          have S4 := J4.suite he4 hd4 na nL nF
          refine wpAny_mono ((hsu a oe4 cls d (X.pn ++ pins) hz4 ⟨_, hd4⟩).run [] _ _ H' _ S4 (hyes rfl a na)) (fun f s6 hsp => ?_) (fun _ _ z => False.elim z)
          cases f with
          | next =>
            obtain ⟨σ6, H6, S6, q6⟩ := hsp
            exact ⟨_, _, S6.unsuite ok, q6⟩
          | brk =>
            obtain ⟨σ6, H6, S6, q6⟩ := hsp
            exact ⟨_, _, S6.unsuite ok, q6⟩
          | cont =>
            obtain ⟨σ6, H6, S6, q6⟩ := hsp
            exact ⟨_, _, S6.unsuite ok, q6⟩
          | ret u =>
            obtain ⟨v6, σ6, H6, S6, r6, q6⟩ := hsp
            exact ⟨_, _, _, S6.unsuite ok, r6, q6⟩
        | false =>
          show wpAny _ X.A (handleBy (.ref a) X.env hds2) _ _ _
          exact ih (hno rfl)
      | @named x c ts b₀ suite np pos' hds2 l2 hc hsu r ih =>
        intro w
        obtain ⟨b, hb1, hyes, hno⟩ := w
        refine wpAny_handleBy_cons (codeAny_handlers_test ?_) (by intro q; cases q)
        have LM := PySem.W.exm_one (M := model X.prog X.w) (J3.kIn) LT hb1
        refine test hc (LM.here ?_)
        cases b with
        | true =>
          refine codeAny_handlers_suite_as ?_
          refine HandSPX.lands_againZ fl3 fun h4 fl4 up4 => ?_
          have J4 : Inv X pins σ' H' { s' with heap := h4 } := J.landed nb fl4.1 ((up.trans up3).trans up4) os ag
          obtain ⟨oe4, vs4, he4, hz4, hd4⟩ := fl4.there
          have S4 := J4.suite he4 hd4 na nL nF
          refine store_ok (X := X.suite a ((a, oe4) :: (X.pn ++ pins))) (v := .ref a) S4 hN hi hloc rfl (fun s5 S5 => ?_) (.inr hln)
          refine wpAny_mono ((hsu a oe4 cls d (X.pn ++ pins) hz4 ⟨_, hd4⟩).run [] s5 _ H' _ S5 (hyes rfl a na)) (fun f s6 hsp => ?_) (fun _ _ z => False.elim z)
          have end_ : ∀ {σ6 : St} {H6 : Hp} {Q : Shared → Prop}, Inv (X.suite a ((a, oe4) :: (X.pn ++ pins))) [] σ6 H6 s6 → (∀ s7, Inv X pins (σ6.set i none) H6 s7 → Q s7) →
              wpAny (model X.prog X.w) X.A (do bindName X.env n .none; unbindBehindTheSuite X.env n pos') (fun _ s7 => Q s7) X.xe s6 := fun {σ6 H6 Q} S6 hq => gone_ok (S6.unsuite ok) hN hi hln hq
          cases f with
          | next =>
            obtain ⟨σ6, H6, S6, q6⟩ := hsp
            exact end_ S6 fun s7 J7 => ⟨_, _, J7, q6⟩
          | brk =>
            obtain ⟨σ6, H6, S6, q6⟩ := hsp
            exact end_ S6 fun s7 J7 => ⟨_, _, J7, q6⟩
          | cont =>
            obtain ⟨σ6, H6, S6, q6⟩ := hsp
            exact end_ S6 fun s7 J7 => ⟨_, _, J7, q6⟩
          | ret u =>
            obtain ⟨v6, σ6, H6, S6, r6, q6⟩ := hsp
            exact end_ S6 fun s7 J7 => ⟨_, _, _, J7, r6, q6⟩
        | false =>
          show wpAny _ X.A (handleBy (.ref a) X.env hds2) _ _ _
          exact ih (hno rfl)
    exact go hh w
  · cases f with
    | next =>
      obtain ⟨σ', H', J', q⟩ := hsp
      exact wpAny_execs_nil ⟨σ', H', J'.ofTry ok, q⟩
    | brk =>
      obtain ⟨σ', H', J', q⟩ := hsp
      exact ⟨σ', H', J'.ofTry ok, q⟩
    | cont =>
      obtain ⟨σ', H', J', q⟩ := hsp
      exact ⟨σ', H', J'.ofTry ok, q⟩
    | ret u =>
      obtain ⟨v, σ', H', J', r, q⟩ := hsp
      exact ⟨v, σ', H', J'.ofTry ok, r, q⟩
end
end PD
set_option Elab.async false
set_option linter.all false
set_option maxRecDepth 100000
set_option autoImplicit false
namespace PD
open PySem PySem.Spec L2

section
variable {X : Cx} {S : Sig} {W : WX} {C : Cfg} {F : Fns} {pos : Pos} {N : Nat}
theorem lk_of {sc : Scope} {x : Str} (h : lk sc x = true) : sc.names.lookup x = some .local := by
  unfold lk at h
  split at h
  · assumption
  · cases h
theorem fnK_of {sc : Scope} (h : fnK sc = true) : sc.kind = .function := by
  unfold fnK at h
  split at h
  · assumption
  · cases h
theorem bk_of {env : PySem.Env} (h : env.scope.kind = .function) : env.blockKind = .function := by
  unfold Env.blockKind; rw [h]; rfl
theorem sw2 {x y : Str} {px py pt pt2 : Pos} {kt k2 : Nat} {a b : Expr} {env : PySem.Env} (hk : env.scope.kind = .function) (hx : env.scope.names.lookup x = some .local) (hy : env.scope.names.lookup y = some .local) (hl : (py.line == px.line) = true) (hn : x ≠ y)
    (hs : stars [a, b] = false) (hf : [a, b].all (foldedForSure 8) = false) (hc : [a, b].all (constantsAlone 8) = false) :
    swappedStores [.Tuple [.Name x px, .Name y py] kt pt] (.Tuple [a, b] k2 pt2) env = pure (some [x, y]) := by
  have kx : env.kindOf x = some .local := hx
  have ky : env.kindOf y = some .local := hy
  have e1 : ([x, y] : List Str).eraseDups = [x, y] := by
    simp [List.eraseDups_cons, hn.symm, Ne.symm hn, hn]
  unfold swappedStores
  unfold stars at hs
  simp only [bk_of hk, kx, ky, hl, hs, hf, hc, List.filterMap, List.head?, Option.map, Option.getD, Expr.pos]
  simp [e1]
  intro h
  obtain ⟨h1, h2⟩ := Bool.or_eq_false_iff.mp hs
  obtain ⟨h2, _⟩ := Bool.or_eq_false_iff.mp h2
  rcases h with h | h
  · exact Bool.noConfusion (h.symm.trans h1)
  · exact Bool.noConfusion (h.symm.trans h2)
theorem sw3 {x y z : Str} {px py pz pt pt2 : Pos} {kt k2 : Nat} {a b c : Expr} {env : PySem.Env} (hk : env.scope.kind = .function) (hx : env.scope.names.lookup x = some .local) (hy : env.scope.names.lookup y = some .local) (hz : env.scope.names.lookup z = some .local) (hl : (py.line == px.line) = true) (hl' : (pz.line == px.line) = true) (hn : x ≠ y) (hn' : x ≠ z) (hn2 : y ≠ z)
    (hs : stars [a, b, c] = false) (hf : [a, b, c].all (foldedForSure 8) = false) (hc : [a, b, c].all (constantsAlone 8) = false) :
    swappedStores [.Tuple [.Name x px, .Name y py, .Name z pz] kt pt] (.Tuple [a, b, c] k2 pt2) env = pure (some [x, y, z]) := by
  have kx : env.kindOf x = some .local := hx
  have ky : env.kindOf y = some .local := hy
  have kz : env.kindOf z = some .local := hz
  have e1 : ([x, y, z] : List Str).eraseDups = [x, y, z] := by
    simp [List.eraseDups_cons, hn.symm, Ne.symm hn, hn, hn'.symm, hn2.symm]
  unfold swappedStores
  unfold stars at hs
  simp only [bk_of hk, kx, ky, kz, hl, hl', hs, hf, hc, List.filterMap, List.head?, Option.map, Option.getD, Expr.pos]
  simp [e1]
  intro h
  obtain ⟨h1, h2⟩ := Bool.or_eq_false_iff.mp hs
  obtain ⟨h2, h3⟩ := Bool.or_eq_false_iff.mp h2
  obtain ⟨h3, _⟩ := Bool.or_eq_false_iff.mp h3
  rcases h with h | h | h
  · exact Bool.noConfusion (h.symm.trans h1)
  · exact Bool.noConfusion (h.symm.trans h2)
  · exact Bool.noConfusion (h.symm.trans h3)
theorem sw0 {ts : List Expr} {kt : Nat} {pt : Pos} {e : Expr} {env : PySem.Env} (h : (!isTupE e || !(ts.length == 2 || ts.length == 3)) = true) : swappedStores [.Tuple ts kt pt] e env = pure none := by
  cases e with
  | Tuple vs k p =>
    have h : (!(ts.length == 2 || ts.length == 3)) = true := by simpa [isTupE] using h
    unfold swappedStores
    simp only [h, Bool.true_or, if_true]
  | _ => rfl
theorem swF {ts : List Expr} {kt : Nat} {pt : Pos} {e : Expr} {env : PySem.Env} (h : foldT e = true) : swappedStores [.Tuple ts kt pt] e env = pure none := by
  cases e with
  | Tuple vs k p =>
    have h : vs.all (foldedForSure 8) = true := h
    unfold swappedStores
    dsimp only
    split
    · rfl
    · split
      · rfl
      · split
        · rfl
        · first | rfl | rw [if_pos h]
  | _ => cases h
theorem swO {ts : List Expr} {kt : Nat} {pt : Pos} {e : Expr} {env : PySem.Env} (hs : env.scope = C.sc) (h : outT C ts = true) : swappedStores [.Tuple ts kt pt] e env = pure none := by
  have short : ∀ line : Nat, (ts.filterMap fun
      | .Name id pos => if env.kindOf id == some .local && pos.line == line then some id else none
      | _ => none).length ≠ ts.length := fun line q => by
    rw [List.filterMap_length_eq_length] at q
    unfold outT at h
    obtain ⟨t, ht, k⟩ := List.any_eq_true.mp h
    have q := q t ht
    cases t with
    | Name x px =>
      dsimp only at q k
      split at q
      · rename_i c
        rw [Bool.and_eq_true, beq_iff_eq] at c
        have c1 : env.scope.names.lookup x = some .local := c.1
        rw [hs] at c1
        unfold lk at k
        rw [c1] at k
        cases k
      · cases q
    | _ => cases k
  cases e with
  | Tuple vs k p =>
    unfold swappedStores
    dsimp only
    split
    · rfl
    · split
      · rfl
      · split
        · rfl
        · rename_i c
          rw [Bool.or_eq_true, not_or] at c
          have c := c.1
          rw [bne_iff_ne, Classical.not_not] at c
          exact absurd c (short _)
  | _ => rfl
theorem swT {ts : List Expr} {kt : Nat} {pt : Pos} {e : Expr} {l : Nat} {env : PySem.Env} : swapsWithSole [.Tuple ts kt pt] e l env = pure false := by
  cases e <;> rfl
theorem swN {x : Str} {py : Pos} {e : Expr} {env : PySem.Env} : swappedStores [.Name x py] e env = pure none := by
  cases e <;> rfl
/-- whether the list is stored within the comprehension's frame -/
def swB (C : Cfg) (x : Str) (py lp : Pos) (scope : Scope) : Bool :=
  lk C.sc x && (py.line == lp.line) && !(scope.names.any fun (n, k) => n == x && (k == .local || k == .cell))
theorem swL {x : Str} {py lp : Pos} {elt : Expr} {gs : List Comprehension} {scope : Scope} {l : Nat} {env : PySem.Env} (hk : env.scope.kind = .function) (hs : env.scope = C.sc) :
    swapsWith (.ListComp elt gs scope lp) (some (.Name x py)) l env = pure (swB C x py lp scope) := by
  unfold swapsWith swB lk
  rw [← hs]
  simp only [bk_of hk, Expr.pos, Env.kindOf]
  cases e : env.scope.names.lookup x with
  | none => simp
  | some k => cases k <;> simp <;> rfl
theorem mem_sz {es : List Expr} {e : Expr} (h : e ∈ es) : sizeOf e < sizeOf es := List.sizeOf_lt_of_mem h
/-- name = e -/
theorem st_set {x : Str} {py : Pos} {e : Expr} {i : Nat} {c : E} (G : Gd X S W C F) (K : StOk X C) (hk : X.env.scope.kind = .function) (hi : C.slot x = some i) (h : cE C e = some c) : SS X S W F N (.Assign [.Name x py] e pos) (.asg (.n i) c) := by
  have nd : X.N.Nodup := by rw [G.hN]; exact G.nd
  have plain : swapsWithSole [.Name x py] e pos.line X.env = pure false → SS X S W F N (.Assign [.Name x py] e pos) (.asg (.n i) c) := fun hs =>
    st_asg (se_of G h) (g_name nd K hi) hs swN rfl
  cases e with
  | ListComp elt gs scope lp =>
    have e1 := swL (C := C) (x := x) (py := py) (lp := lp) (elt := elt) (gs := gs) (scope := scope) (l := pos.line) hk G.hsc
    cases hb : swB C x py lp scope with
    | false => exact plain (by rw [hb] at e1; exact e1)
    | true =>
      rw [hb] at e1
      cases gs with
      | nil => rw [cE.eq_def] at h; cases h
      | cons g gs =>
        cases gs with
        | cons _ _ => rw [cE] at h; cases h; all_goals simp
        | nil =>
          obtain ⟨tg, iter, ifs, as⟩ := g
          by_cases ha : as = 0
          · subst ha
            have h := cE_lc h
            unfold mkLc at h
            split at h
            · obtain ⟨it, h1, h⟩ := bindS h
              obtain ⟨t, h2, h⟩ := bindS h
              obtain ⟨k, h3, h⟩ := bindS h
              obtain ⟨e, h4, h⟩ := bindS h
              split at h
              · cases h
                obtain ⟨hi', hs⟩ := i_of (tg := tg) G (fun e he c hc => se_of G hc) h1
                have hl : X.env.scope.names.lookup x = some .local := by
                  rw [G.hsc]
                  unfold swB at hb
                  simp only [Bool.and_eq_true] at hb
                  exact lk_of hb.1.1
                exact st_lcset G hi hl e1 (by assumption) (by assumption) hs hi' h2 (fun X' G' => sifs_of (fun e he c hc => se_of G' hc) h3) (fun X' G' => (se_of G' h4).pe)
              · cases h
            · cases h
          · rw [cE] at h; cases h; all_goals simp [ha]
  | SetComp _ _ _ _ => rw [cE.eq_def] at h; cases h
  | DictComp _ _ _ _ _ => rw [cE.eq_def] at h; cases h
  | _ => exact plain rfl
/-- what is walked by a for -/
theorem j_of {tg iter : Expr} {it : I} (G : Gd X S W C F) (h : mkI C tg iter = some it) :
    PI X tg iter (RJ S W (evJ F it)) ∧ ∀ x, foldedSetIterable iter X.env x = pure x := by
  have plain : (cE C iter).map I.e = some it → PI X tg iter (RJ S W (evJ F it)) ∧ ∀ x, foldedSetIterable iter X.env x = pure x := fun h => by
    obtain ⟨c, h1, rfl⟩ := mapS h
    refine ⟨j_e G (se_of G h1), ?_⟩
    cases iter with
    | Set _ _ _ => rw [cE.eq_def] at h1; cases h1
    | _ => intro x; rfl
  unfold mkI at h
  split at h
  · rename_i f p a pos
    split at h
    · rename_i hc
      have h : (cE C a).map I.rng1 = some it := h
      obtain ⟨c, h1, rfl⟩ := mapS h
      unfold rngOk at hc
      simp only [Bool.and_eq_true, decide_eq_true_eq] at hc
      obtain ⟨⟨h2, rfl⟩, _⟩ := hc
      exact ⟨j_rng1 G h2 (se_of G h1), fun _ => rfl⟩
    · split at h
      · rename_i hc
        have h : (cE C a).map I.enum = some it := h
        obtain ⟨c, h1, rfl⟩ := mapS h
        unfold enumOk at hc
        simp only [Bool.and_eq_true, decide_eq_true_eq] at hc
        obtain ⟨⟨⟨h2, rfl⟩, h3⟩, _⟩ := hc
        cases tg with
        | Tuple es k tp => exact ⟨j_enum G h2 (se_of G h1), fun _ => rfl⟩
        | _ => cases h3
      · exact plain h
  · rename_i f p a b pos
    split at h
    · rename_i hc
      have h : ((cE C a).bind fun a => (cE C b).map fun b => I.rng2 a b) = some it := h
      obtain ⟨c, h1, h⟩ := bindS h
      obtain ⟨d, h2, rfl⟩ := mapS h
      unfold rngOk at hc
      simp only [Bool.and_eq_true, decide_eq_true_eq] at hc
      obtain ⟨⟨h3, rfl⟩, _⟩ := hc
      exact ⟨j_rng2 G h3 (se_of G h1) (se_of G h2), fun _ => rfl⟩
    · exact plain h
  · exact plain h
/-- a class of errors that is caught by its name, and its field -/
structure HndOk (X : Cx) (S : Sig) (c : Str) : Prop where
  nm : Names X c (.ref (S.cl c))
  xf : XfC X.K (S.cl c)
  no : PySem.W.findIn X.K (.ref (S.cl c)) "place" = some none
  it : PySem.W.exmOne X.K (.ref (S.cl c)) (.ref (S.cl c)) = some true
  at_ : S.at_ c = "place"
structure Gs (X : Cx) (S : Sig) (W : WX) (C : Cfg) (F : Fns) : Prop where
  g : Gd X S W C F
  sto : StOk X C
  kind : X.env.scope.kind = .function
  exc : ∀ c ∈ C.excs, glB C.sc c = true → ExcOk X S c
  stk : X.stack = X.env :: X.outer ∧ X.env.frame = some X.env.locals
  hnd : ∀ c ∈ C.excs, glB C.sc c = true → placeC c = true → HndOk X S c
theorem st_wrap {st : Stmt} {s : Sm} {L : List Str} {is : List Nat} (h : SS X S W F N st s) : SS X S W F N st (wrap C L is s) := by
  unfold wrap
  split
  · exact h
  · exact st_fr h
theorem st_lcF {x : Str} {py lp : Pos} {elt : Expr} {gs : List Comprehension} {scope : Scope} {i : Nat} {c : E} (G : Gs X S W C F) (hi : C.slot x = some i) (h : cE C (.ListComp elt gs scope lp) = some c) : SS X S W F N (.Assign [.Name x py] (.ListComp elt gs scope lp) pos) (.asgF i c) := by
  have e1 := swL (C := C) (x := x) (py := py) (lp := lp) (elt := elt) (gs := gs) (scope := scope) (l := pos.line) G.kind G.g.hsc
  cases gs with
  | nil => rw [cE.eq_def] at h; cases h
  | cons g gs =>
    cases gs with
    | cons _ _ => rw [cE] at h; cases h; all_goals simp
    | nil =>
      obtain ⟨tg, iter, ifs, as⟩ := g
      by_cases ha : as = 0
      · subst ha
        have h := cE_lc h
        unfold mkLc at h
        split at h
        · obtain ⟨it, h1, h⟩ := bindS h
          obtain ⟨t, h2, h⟩ := bindS h
          obtain ⟨k, h3, h⟩ := bindS h
          obtain ⟨e, h4, h⟩ := bindS h
          split at h
          · cases h
            obtain ⟨hi', hs⟩ := i_of (tg := tg) G.g (fun e he c hc => se_of G.g hc) h1
            cases hb : swB C x py lp scope with
            | false =>
              rw [hb] at e1
              exact st_asgF G.g G.sto hi (fr_lc G.g (by assumption) (by assumption) hs hi' h2 (fun X' G' => sifs_of (fun e he c hc => se_of G' hc) h3) (fun X' G' => (se_of G' h4).pe)) e1
            | true =>
              rw [hb] at e1
              have hl : X.env.scope.names.lookup x = some .local := by
                rw [G.g.hsc]
                unfold swB at hb
                simp only [Bool.and_eq_true] at hb
                exact lk_of hb.1.1
              exact st_lcsetF G.g hi hl e1 (by assumption) (by assumption) hs hi' h2 (fun X' G' => sifs_of (fun e he c hc => se_of G' hc) h3) (fun X' G' => (se_of G' h4).pe)
          · cases h
        · cases h
      · rw [cE] at h; cases h; all_goals simp [ha]
theorem st_cSet {L : List Str} {x : Str} {py : Pos} {e : Expr} {s : Sm} (G : Gs X S W C F) (h : cSet C L x e = some s) : SS X S W F N (.Assign [.Name x py] e pos) s := by
  unfold cSet at h
  obtain ⟨i, hi, h⟩ := bindS h
  split at h
  · split at h
    · obtain ⟨cs, h1, rfl⟩ := mapS h
      exact st_asgF G.g G.sto hi (fr_lst G.g (ses_of _ (fun e _ c hc => se_of G.g hc) h1)) rfl
    · obtain ⟨ca, h1, h⟩ := bindS h
      obtain ⟨cb, h2, rfl⟩ := mapS h
      exact st_asgF G.g G.sto hi (fr_add G.g (se_of G.g h1) (se_of G.g h2)) rfl
    · split at h
      · rename_i hc
        cases h
        obtain ⟨rfl, hg, _⟩ := hc
        exact st_newS G.g G.sto hi hg
      · cases h
    · cases h
      exact st_newD G.g G.sto hi
    · rename_i elt gs sc lp
      obtain ⟨c, h1, rfl⟩ := mapS h
      exact st_lcF G hi h1
    · obtain ⟨c, h1, rfl⟩ := mapS h
      exact st_set G.g G.sto G.kind hi h1
  · obtain ⟨c, h1, rfl⟩ := mapS h
    exact st_set G.g G.sto G.kind hi h1
theorem st_cTup {ts : List Expr} {k : Nat} {pt : Pos} {e : Expr} {s : Sm} (G : Gs X S W C F) (h : cTup C ts k pt e = some s) : SS X S W F N (.Assign [.Tuple ts k pt] e pos) s := by
  have nd : X.N.Nodup := by rw [G.g.hN]; exact G.g.nd
  have lx : ∀ {x : Str}, lk C.sc x = true → X.env.scope.names.lookup x = some .local := fun h => by rw [G.g.hsc]; exact lk_of h
  unfold cTup at h
  split at h
  · rename_i hf
    obtain ⟨t, h1, h⟩ := bindS h
    obtain ⟨c, h2, rfl⟩ := mapS h
    exact st_asg (se_of G.g h2) (g_tg nd G.g.calm G.g.hK G.sto h1) swT (by
      rw [Bool.or_eq_true] at hf
      exact hf.elim swF (swO G.g.hsc)) rfl
  split at h
  · split at h
    · unfold cPar2 at h
      split at h
      · rename_i hc
        simp only [Bool.and_eq_true, Bool.not_eq_true', decide_eq_true_eq] at hc
        obtain ⟨⟨⟨⟨⟨⟨⟨c1, c2⟩, c3⟩, c4⟩, c5⟩, c6⟩, c7⟩, c8⟩ := hc
        obtain ⟨i, h1, h⟩ := bindS h
        obtain ⟨j, h2, h⟩ := bindS h
        obtain ⟨ca, h3, h⟩ := bindS h
        obtain ⟨cb, h4, h⟩ := bindS h
        split at h
        · cases h
          exact st_par2 G.g h1 h2 (by assumption) (lx c2) (lx c3) (se_of G.g h3) (se_of G.g h4) (sw2 G.kind (lx c2) (lx c3) c4 c5 c6 c7 c8)
        · cases h
      · cases h
    · cases h
  · split at h
    · unfold cPar3 at h
      split at h
      · rename_i hc
        simp only [Bool.and_eq_true, Bool.not_eq_true', decide_eq_true_eq] at hc
        obtain ⟨⟨⟨⟨⟨⟨⟨⟨⟨⟨⟨c1, c2⟩, c3⟩, c4⟩, c5⟩, c6⟩, c7⟩, c8⟩, c9⟩, c10⟩, c11⟩, c12⟩ := hc
        obtain ⟨i, h1, h⟩ := bindS h
        obtain ⟨j, h2, h⟩ := bindS h
        obtain ⟨l, h5, h⟩ := bindS h
        obtain ⟨ca, h3, h⟩ := bindS h
        obtain ⟨cb, h4, h⟩ := bindS h
        obtain ⟨cc, h6, h⟩ := bindS h
        split at h
        · rename_i hd
          cases h
          exact st_par3 G.g h1 h2 h5 hd.1 hd.2.1 hd.2.2 (lx c2) (lx c3) (lx c4) (se_of G.g h3) (se_of G.g h4) (se_of G.g h6) (sw3 G.kind (lx c2) (lx c3) (lx c4) c5 c6 c7 c8 c9 c10 c11 c12)
        · cases h
      · cases h
    · cases h
  · split at h
    · obtain ⟨t, h1, h⟩ := bindS h
      obtain ⟨c, h2, rfl⟩ := mapS h
      exact st_asg (se_of G.g h2) (g_tg nd G.g.calm G.g.hK G.sto h1) swT (sw0 (by assumption)) rfl
    · cases h
theorem st_parF {x y : Str} {i j : Nat} {a : Expr} {es : List Expr} {ca : E} {ces : List E} {px py pt pt2 pl : Pos} {kt k2 : Nat} (G : Gs X S W C F) (hi : C.slot x = some i) (hj : C.slot y = some j) (hij : i ≠ j) (ha : SE X S W F a ca) (hes : SEs X S W F es ces)
    (ho : outT C [.Name x px, .Name y py] = true) : SS X S W F N (.Assign [.Tuple [.Name x px, .Name y py] kt pt] (.Tuple [a, .List es pl] k2 pt2) pos) (.parF i j ca ces) := by
  have nd : X.N.Nodup := by rw [G.g.hN]; exact G.g.nd
  obtain ⟨x1, x2, x3⟩ := G.sto x i hi
  obtain ⟨y1, y2, y3⟩ := G.sto y j hj
  refine PS.weak (ps_asg (pe_tup (pa_cons ha.pe (pa_cons (pe_lst hes.pa) pa_nil) (ha.ns _ _))) (pg_tup (n := 2) G.g.calm (pgs_cons (pg_name nd x1 x2 x3) (pgs_cons (pg_name nd y1 y2 y3) pgs_nil rfl) rfl) rfl rfl) swT (swO G.g.hsc ho) rfl) fun D σ H q => ?_
  obtain ⟨env, g, He, H0e, H0, R, q⟩ := q
  simp only [exS] at q
  refine ⟨env, g, He, H0e, H0, R, PstS.bd R q fun x g1 v H1 H1' a1 r1 h1 => ?_⟩
  have R1 := R.step a1
  cases x with
  | gn => exact h1.elim
  | sc _ => exact h1.elim
  | co _ => exact h1.elim
  | bo ds => exact h1.elim
  | d d =>
    have h1 : PstS S W He H0e H0 D (((evs F ces env).bd fun xs => (M.ofO (xs.mapM dOf)).bd fun ds => if ds.length ≤ sizeLine ∧ i < env.length ∧ j < env.length ∧ i ≠ j then .pu (.nx ((env.set i (.fz d)).set j (.ow ds))) else .stuck) g1) := h1
    have r1 : Dr S.K H1 v d := r1
    refine ⟨env, g1, He, H0e, H1, R1, PstS.bd R1 (h1.mono a1.stp.s0) fun xs g2 vs H2 H2' a2 r2 h2 => ?_⟩
    have R2 := R1.step a2
    rw [M.ofO_bd] at h2
    cases e1 : xs.mapM dOf with
    | none => rw [e1] at h2; exact h2.elim
    | some ds =>
      rw [e1] at h2
      have hd := drs_of r2 e1
      dsimp only at h2
      split at h2
      · rename_i hz
        obtain ⟨hz, bi, bj, _⟩ := hz
        refine ⟨by rw [hd.length]; exact hz, fun p hp => ?_⟩
        refine ⟨by simp [sizeLine_eq], fun t ht => ?_⟩
        refine ⟨t, [v, .ref p], rfl, SqT.of upd_same, rfl, v, [.ref p], rfl, .ref p, [], rfl, rfl, ?_⟩
        have a3 : Aft S g2 H2 H2' H2 (upd H2' p (.lst vs)) := Aft.grow R2.sub R2.gen R2.tabs hp
        have R3 := R2.step a3
        have a4 : Aft S g2 H2 (upd H2' p (.lst vs)) H2 (upd (upd H2' p (.lst vs)) t (.tup [v, .ref p])) := Aft.grow R3.sub R3.gen R3.tabs ht
        have R4 := R3.step a4
        have R5 := R4.set (i := i) bi (r1.same a2.stp.s0)
        have pt : p ≠ t := ne_of_none upd_same ht
        refine h2 _ H2 _ (R5.setO (i := j) (by simpa using bj) (by rw [upd_ne pt]; exact upd_same) (R2.sub.free hp) (R2.he (.inl hp)) hd fun j' b ho' hj' e2 => ?_) a2.stp.s0
        have ji : j' ≠ i := fun z => by
          unfold Own at ho'
          rw [z, List.getElem?_set_self bi] at ho'
          rcases ho' with ⟨_, q⟩ | ⟨_, q⟩ <;> cases q
        rw [List.getElem?_set_ne (Ne.symm ji)] at e2
        exact R2.own_ne (.inl hp) (ho'.other ji) e2
      · exact h2.elim
theorem st_cParF {L : List Str} {ts : List Expr} {k : Nat} {pt : Pos} {e : Expr} {s : Sm} (G : Gs X S W C F) (h : cParF C L ts e = some s) : SS X S W F N (.Assign [.Tuple ts k pt] e pos) s := by
  unfold cParF at h
  split at h
  · split at h
    · rename_i hc
      obtain ⟨i, h1, h⟩ := bindS h
      obtain ⟨j, h2, h⟩ := bindS h
      obtain ⟨ca, h3, h⟩ := bindS h
      obtain ⟨ces, h4, h⟩ := bindS h
      split at h
      · cases h
        exact st_parF G h1 h2 (by assumption) (se_of G.g h3) (ses_of _ (fun e _ c hc => se_of G.g hc) h4) hc.2
      · cases h
    · cases h
  · cases h
theorem st_cGp {x k : Str} {p p2 p3 : Pos} {j : Nat} {e : Expr} {s : Sm} (G : Gs X S W C F) (h : cGp C x k e = some s) : SS X S W F N (.Assign [.Subscript (.Name x p) (.Constant (.str k) j p3) p2] e pos) s := by
  unfold cGp at h
  obtain ⟨hc, h⟩ := ifS' h
  obtain ⟨i, h1, h⟩ := bindS h
  obtain ⟨c, h2, rfl⟩ := mapS h
  refine st_gput G.g h1 (se_of G.g h2) ?_
  cases e with
  | ListComp _ _ _ _ => exact absurd hc.2 (by simp [noComp])
  | SetComp _ _ _ _ => exact absurd hc.2 (by simp [noComp])
  | DictComp _ _ _ _ _ => exact absurd hc.2 (by simp [noComp])
  | _ => rfl
theorem st_cAp {L : List Str} {x m : Str} {p apos cpos : Pos} {e : Expr} {s : Sm} (G : Gs X S W C F) (h : cAp C L x m apos cpos e = some s) : SS X S W F N (.Expr (.Call (.Attribute (.Name x p) m apos) [e] [] cpos) pos) s := by
  unfold cAp at h
  split at h
  · rename_i hc
    obtain ⟨i, h1, h⟩ := bindS h
    obtain ⟨c, h2, rfl⟩ := mapS h
    exact st_ap G.g hc.2.1 h1 (se_of G.g h2) hc.2.2
  · split at h
    · rename_i hc
      obtain ⟨i, h1, h⟩ := bindS h
      obtain ⟨c, h2, rfl⟩ := mapS h
      exact st_ex G.g hc.2.1 h1 (se_of G.g h2) hc.2.2
    · split at h
      · rename_i hc
        obtain ⟨i, h1, h⟩ := bindS h
        obtain ⟨c, h2, rfl⟩ := mapS h
        exact st_ad G.g hc.2.1 h1 (se_of G.g h2) hc.2.2
      · cases h
theorem st_cDp {L : List Str} {o k e : Expr} {p2 : Pos} {s : Sm} (G : Gs X S W C F) (h : cDp C L o k e = some s) : SS X S W F N (.Assign [.Subscript o k p2] e pos) s := by
  unfold cDp at h
  split at h
  · obtain ⟨hc, h⟩ := ifS' h
    obtain ⟨i, h1, h⟩ := bindS h
    obtain ⟨ck, h2, h⟩ := bindS h
    obtain ⟨ce, h3, rfl⟩ := mapS h
    refine st_dp G.g h1 (se_of G.g h2) (se_of G.g h3) ?_
    cases e with
    | ListComp _ _ _ _ => exact absurd hc.2 (by simp [noComp])
    | SetComp _ _ _ _ => exact absurd hc.2 (by simp [noComp])
    | DictComp _ _ _ _ _ => exact absurd hc.2 (by simp [noComp])
    | _ => rfl
  · cases h
theorem Gs.tr (G : Gs X S W C F) (hl : C.lam = false) {W' : WX} {pn : List (Addr × Obj)} {xe : Value → Shared → Prop} (tk : Takes (X.tr pn xe) W') (ow : PassesOwn (model X.prog X.w) X.A X.env xe) : Gd (X.tr pn xe) S W' C F :=
  ⟨{ hN := G.g.hN, hsc := G.g.hsc, hK := G.g.hK, hw := G.g.hw, nd := G.g.nd, calm := G.g.calm, room := G.g.room, guards := G.g.guards, own := ow, tk := tk, blt := G.g.blt, sys := G.g.sys, cst := G.g.cst, fns := G.g.fns }, fun z => by rw [hl] at z; cases z⟩
theorem st_tryE {e : Expr} {ce : E} {c n : Str} {i : Nat} {ep np p2 p3 p5 p6 : Pos} (G : Gs X S W C F) (hi : C.slot n = some i) (hl : lk C.sc n = true) (hd : dbg n = false) (hlam : C.lam = false) (H : HndOk X S c) (hc : cE C e = some ce) (hn : noComp e = true) :
    SS X S W F N (.Try [.Expr e ep] [.ExceptHandler (some (.Name c np)) (some n) [.Return (some (.Attribute (.Name n p2) "place" p3)) p5] p6] [] [] pos) (.tryE i ce c) := by
  have nd : X.N.Nodup := by rw [G.g.hN]; exact G.g.nd
  have hx := slot_ix G.g hi
  have hln : X.env.scope.names.lookup n = some .local := by rw [G.g.hsc]; exact lk_of hl
  obtain ⟨d1, d2⟩ := dbg_of (x := n) (by rw [hd]; rfl)
  refine PS.weak (ps_try_chain (X := X) (i := i) (n := n) (Wout := W) (l := [(.ref (S.cl c), true, fun a cls d => tRet (tXf a cls d (S.cl c) "place" (tVar i)))]) (tb := fun W' D σ H => RE S W' (ev F ce) σ H fun _ H' => D.nx σ H') G.stk.1 G.stk.2 nd hx hln G.g.tk
    (fun W' pn xe tk ow => pss_one (ps_expr (X := X.tr pn xe) (se_of (X := X.tr pn xe) (W := W') (G.tr hlam tk ow) hc).pe (by
      cases e with
      | ListComp _ _ _ _ => exact absurd hn (by simp [noComp])
      | SetComp _ _ _ _ => exact absurd hn (by simp [noComp])
      | DictComp _ _ _ _ _ => exact absurd hn (by simp [noComp])
      | _ => rfl)))
    (.named H.nm (fun a oe cls d pn hz hd => pss_one (ps_ret (pe_xf H.xf H.no hz hd (pe_var (X := X.suite a ((a, oe) :: pn)) (i := i) hx (.inl hln) d1 d2)))) .nil)) fun D σ H' q => ?_
  obtain ⟨env, g, He, H0e, H0, R, q⟩ := q
  simp only [exS] at q
  split at q
  · rename_i hz
    refine ⟨env, g, He, H0e, H0, R, ?_⟩
    unfold M.tryC at q
    cases er : ev F ce env g with
    | st => rw [er] at q; exact q.elim
    | ok x g' =>
      rw [er] at q
      exact fun v H1 H1' a r => q σ H1 H1' (R.step a) a.stp.s0
    | er c' d g' =>
      rw [er] at q
      dsimp only at q
      split at q
      · rename_i ec
        subst ec
        intro dx v H1 H1' a q1 q2
        have hσ : i < σ.length := by
          obtain ⟨o, h, _⟩ := R.slots i env[i] (by simp [hz])
          exact (List.getElem?_eq_some_iff.mp h).1
        refine ⟨true, H.it, fun _ b nb => ?_, fun z => by cases z⟩
        refine ⟨.ref b, List.getElem?_set_self hσ, rfl, rfl, dx, _, v, rfl, q1, by rw [H.at_]; simp [List.lookup], ?_⟩
        exact q v H1 H1' (R.aft a) q2
      · exact q.elim
  · exact q.elim
theorem st_cTry {b : List Stmt} {hs : List ExceptHandler} {oe fin : List Stmt} {s : Sm} (G : Gs X S W C F) (h : cTry C b hs oe fin = some s) : SS X S W F N (.Try b hs oe fin pos) s := by
  unfold cTry at h
  split at h
  · unfold cTryE at h
    obtain ⟨hc, hh⟩ := ifS' h
    clear h
    obtain ⟨⟨h1, h2, h3⟩, rfl, rfl, h4, h5, h6, h7⟩ := hc
    obtain ⟨i, k1, hh⟩ := bindS hh
    obtain ⟨ce, k2, rfl⟩ := mapS hh
    exact st_tryE G k1 h4 h5 h6 (G.hnd _ h2 h3 h1) k2 h7
  · cases h
end
end PD
set_option Elab.async false
set_option linter.all false
set_option maxRecDepth 100000
set_option autoImplicit false
namespace PD
open PySem PySem.Spec L2

section
variable {X : Cx} {S : Sig} {W : WX} {C : Cfg} {F : Fns} {N : Nat} {L : List Str}
theorem sss_of : ∀ (ss : List Stmt) {cs : List Sm}, (∀ s ∈ ss, ∀ c, cS C L s = some c → SS X S W F N s c) → cSs C L ss = some cs → SSs X S W F N ss cs
  | [], cs, _, h => by
    have h : some [] = some cs := h
    cases h; exact sts_nil
  | s :: ss, cs, ih, h => by
    rw [cSs] at h
    obtain ⟨cs', h2, rfl⟩ := mapS h
    refine sts_cons ?_ (sss_of ss (fun s' hs => ih s' (by simp [hs])) h2)
    cases e : cS C L s with
    | none => exact st_bad
    | some c => exact ih s (by simp) c e
theorem st_e {e : Expr} {pos : Pos} {s : Sm} (G : Gs X S W C F) (h : (if noComp e then (cE C e).map fun c => wrap C L (esc c) (.expr c) else none) = some s) : SS X S W F N (.Expr e pos) s := by
  split at h
  · rename_i hc
    obtain ⟨c, h1, rfl⟩ := mapS h
    refine st_wrap (st_expr (se_of G.g h1) ?_)
    cases e with
    | ListComp _ _ _ _ => cases hc
    | SetComp _ _ _ _ => cases hc
    | DictComp _ _ _ _ _ => cases hc
    | _ => rfl
  · cases h
theorem ss_all (G : Gs X S W C F) : ∀ (n : Nat) (st : Stmt), sizeOf st < n → ∀ {s : Sm}, cS C L st = some s → SS X S W F N st s := by
  intro n
  induction n with
  | zero => intro e h; omega
  | succ n ih =>
    intro st hn s h
    have mem : ∀ {es : List Stmt}, sizeOf es < n + 1 → ∀ {cs : List Sm}, cSs C L es = some cs → SSs X S W F N es cs := fun {es} hs {cs} h =>
      sss_of es (fun e he c hc => ih e (by have := List.sizeOf_lt_of_mem he; omega) hc) h
    cases st with
    | Assign ts e pos =>
      cases ts with
      | nil => rw [cS.eq_def] at h; cases h
      | cons t ts =>
        cases ts with
        | cons _ _ => rw [cS.eq_def] at h; cases t <;> cases h
        | nil =>
          rw [cS.eq_def] at h
          cases t with
          | Name x py =>
            obtain ⟨s', h1, rfl⟩ := mapS h
            exact st_wrap (st_cSet G h1)
          | Tuple ts k pt =>
            obtain ⟨s', h1, rfl⟩ := mapS h
            refine st_wrap ?_
            cases q : cParF C L ts e with
            | some s2 =>
              rw [q] at h1
              have h1 : s2 = s' := Option.some.inj h1
              subst h1
              exact st_cParF G q
            | none =>
              rw [q] at h1
              exact st_cTup G h1
          | Subscript o i p2 =>
            obtain ⟨s', h1, rfl⟩ := mapS h
            refine st_wrap ?_
            cases q : cGpE C o i e with
            | some s2 =>
              rw [q] at h1
              have h1 : s2 = s' := Option.some.inj h1
              subst h1
              unfold cGpE at q
              split at q
              · exact st_cGp G q
              · cases q
            | none =>
              rw [q] at h1
              exact st_cDp G h1
          | _ => cases h
    | Return v pos =>
      rw [cS.eq_def] at h
      cases v with
      | none => cases h; exact st_retN
      | some e =>
        obtain ⟨c, h1, rfl⟩ := mapS h
        exact st_wrap (st_ret (se_of G.g h1))
    | If t a b pos =>
      rw [cS.eq_def] at h
      simp only [Stmt.If.sizeOf_spec] at hn
      obtain ⟨ct, h1, h⟩ := bindS h
      obtain ⟨ca, h2, h⟩ := bindS h
      obtain ⟨cb, h3, rfl⟩ := mapS h
      exact st_wrap (st_if (se_of G.g h1) (mem (by omega) h2) (mem (by omega) h3))
    | While t b o pos =>
      rw [cS.eq_def] at h
      cases o with
      | cons _ _ => cases h
      | nil =>
        simp only [Stmt.While.sizeOf_spec] at hn
        obtain ⟨ct, h1, h⟩ := bindS h
        obtain ⟨cb, h2, rfl⟩ := mapS h
        exact st_wrap (st_whl G.g (se_of G.g h1) (mem (by omega) h2))
    | For tg iter b o pos =>
      rw [cS.eq_def] at h
      cases o with
      | cons _ _ => cases h
      | nil =>
        simp only [Stmt.For.sizeOf_spec] at hn
        obtain ⟨it, h1, h⟩ := bindS h
        obtain ⟨t, h2, h⟩ := bindS h
        obtain ⟨cb, h3, rfl⟩ := mapS h
        obtain ⟨k1, k2⟩ := j_of G.g h1
        exact st_wrap (st_for G.g k1 (g_tg (by rw [G.g.hN]; exact G.g.nd) G.g.calm G.g.hK G.sto h2) (mem (by omega) h3) k2)
    | Raise exc cause pos =>
      rw [cS.eq_def] at h
      cases exc with
      | none => cases h
      | some v =>
        cases v with
        | Call f es ks cpos =>
          cases f with
          | Name x p =>
            cases es with
            | nil => cases h
            | cons e es =>
              cases es with
              | cons _ _ => cases h
              | nil =>
                cases ks with
                | cons _ _ => cases h
                | nil =>
                  cases cause with
                  | some _ => cases h
                  | none =>
                    dsimp only at h
                    split at h
                    · rename_i hc
                      obtain ⟨c, h1, rfl⟩ := mapS h
                      exact st_wrap (st_raise G.g (G.exc x hc.1 hc.2) (se_of G.g h1))
                    · cases h; exact st_bad
          | _ => cases h
        | _ => cases h
    | Try b hs oe fin pos =>
      rw [cS.eq_def] at h
      obtain ⟨s', h1, rfl⟩ := mapS h
      exact st_wrap (st_cTry G h1)
    | Pass pos => rw [cS.eq_def] at h; cases h; exact st_nop ps_pass
    | Break pos => rw [cS.eq_def] at h; cases h; exact st_brk
    | Continue pos => rw [cS.eq_def] at h; cases h; exact st_cont
    | Expr e pos =>
      rw [cS.eq_def] at h
      cases e with
      | Constant v k p =>
        cases v with
        | str x => cases h; exact st_nop ps_doc
        | _ => exact st_e G h
      | Call f es ks cpos =>
        cases f with
        | Attribute o m apos =>
          cases o with
          | Name x p =>
            cases es with
            | nil => exact st_e G h
            | cons e es =>
              cases es with
              | cons _ _ => exact st_e G h
              | nil =>
                cases ks with
                | cons _ _ => exact st_e G h
                | nil =>
                  obtain ⟨s', h1, rfl⟩ := mapS h
                  exact st_wrap (st_cAp G h1)
          | _ => exact st_e G h
        | _ => exact st_e G h
      | _ => exact st_e G h
    | _ => rw [cS.eq_def] at h; cases h
theorem ss_of (G : Gs X S W C F) {ss : List Stmt} {cs : List Sm} (h : cSs C L ss = some cs) : SSs X S W F N ss cs :=
  sss_of ss (fun s _ c hc => ss_all G (sizeOf s + 1) s (by omega) hc) h
end
end PD
set_option Elab.async false
set_option linter.all false
set_option maxRecDepth 100000
set_option autoImplicit false
namespace PD
open PySem PySem.Spec L2

/-! ### a program: defs by text and by hand -/
inductive Df where
  | tx (n len : Nat) (body : List Sm)
  | sp (n : Nat) (m : List Vl → M D)
def Df.ar : Df → Nat
  | .tx n _ _ => n
  | .sp n _ => n
def slOf : Vl → Option Sl
  | .d x => some (.fz x)
  | .gn => some .gn
  | .sc ns => some (.sc ns)
  | .bo _ => none
  | .co _ => none
/-- what a def tells when it ends so -/
def endD : Fl → M D
  | .rt d => .pu d
  | .nx _ => .pu .none
  | _ => .stuck
def callF (w : Str → Option (Option Str)) (nW : Nat) (P : List Df) : Nat → Nat → List Vl → M D
  | 0, _, _ => .stuck
  | f + 1, i, xs => match P[i]? with
    | some (.tx n len body) => (M.ofO (xs.mapM slOf)).bd fun sl => (exSs ⟨callF w nW P f, w⟩ nW body (sl ++ List.replicate (len - n) .un)).bd endD
    | some (.sp _ m) => m xs
    | none => .stuck
def spOf (S : Sig) (n : Nat) (m : List Vl → M D) : Sp := fun vs H Q E => ∃ xs g H0, xs.length = n ∧ vs.length = n ∧ Same H0 H ∧ NoG S.gm H0 ∧ (∀ a ps, H0 a ≠ some (.tbl ps)) ∧ GenAt S.gm g H0 H ∧ LamX.Tabs S.T H ∧ VRs S H0 H vs xs ∧
  Pst S (fun c d _ H => E c d H) [] H0 H (relR S) Q (m xs g)
theorem VRs.length {S : Sig} {H0 H : Hp} : ∀ {vs : List V} {xs : List Vl}, VRs S H0 H vs xs → vs.length = xs.length
  | _, _, .nil => rfl
  | _, _, .cons _ hs => by simp [VRs.length hs]
theorem spOk_of {S : Sig} {n : Nat} {m : List Vl → M D} : SpOk S n m (spOf S n m) := fun vs xs g H0 H Q E hn sub gn nt gen tabs r h =>
  ⟨xs, g, H0, hn, by rw [r.length]; exact hn, sub, gn, nt, gen, tabs, r, h⟩
/-- the slots at the entry -/
theorem VRs.get {S : Sig} {H0 H : Hp} : ∀ {vs : List V} {xs : List Vl} {sl : List Sl}, VRs S H0 H vs xs → xs.mapM slOf = some sl → sl.length = vs.length ∧ ∀ (i : Nat) (s : Sl), sl[i]? = some s → ∃ v, vs[i]? = some v ∧ SlR S H H0 H (some v) s ∧ (∀ ds, s ≠ .ow ds) ∧ ∀ c, s ≠ .oc c
  | _, _, sl, .nil, e => by
    have e : some [] = some sl := by simpa using e
    cases e
    exact ⟨rfl, fun i s h => by simp at h⟩
  | v :: vs, x :: xs, sl, .cons h hs, e => by
    rw [List.mapM_cons] at e
    cases e1 : slOf x with
    | none => rw [e1] at e; cases e
    | some s =>
      cases e2 : xs.mapM slOf with
      | none => rw [e1, e2] at e; cases e
      | some sl' =>
        rw [e1, e2] at e
        have e3 : s :: sl' = sl := Option.some.inj e
        subst e3
        obtain ⟨k1, k2⟩ := VRs.get hs e2
        refine ⟨by simp [k1], fun i s' hi => ?_⟩
        cases i with
        | zero =>
          have hi : s = s' := by simpa using hi
          subst hi
          refine ⟨v, rfl, ?_⟩
          cases x with
          | d d => cases e1; exact ⟨⟨v, rfl, h⟩, (fun _ z => nomatch z), fun _ z => nomatch z⟩
          | gn => cases e1; obtain ⟨p, k1, k2⟩ := h; exact ⟨⟨p, k1, by rw [k2]⟩, (fun _ z => nomatch z), fun _ z => nomatch z⟩
          | sc ns => cases e1; obtain ⟨p, k1, k2⟩ := h; exact ⟨⟨p, by rw [k1], k2⟩, (fun _ z => nomatch z), fun _ z => nomatch z⟩
          | bo _ => cases e1
          | co _ => cases e1
        | succ i =>
          obtain ⟨v', l1, l2⟩ := k2 i s' (by simpa using hi)
          exact ⟨v', by simpa using l1, l2⟩
theorem rl_start {S : Sig} {g : Gen} {H0 H : Hp} {vs : List V} {xs : List Vl} {sl : List Sl} {Nn : List Str} {n : Nat} (sub : Same H0 H) (gn : NoG S.gm H0) (nt : ∀ a ps, H0 a ≠ some (.tbl ps)) (gen : GenAt S.gm g H0 H) (tabs : LamX.Tabs S.T H) (r : VRs S H0 H vs xs) (e : xs.mapM slOf = some sl) (hn : vs.length = n) (hN : n ≤ Nn.length) :
    Rl S (sl ++ List.replicate (Nn.length - n) .un) g (L2.start Nn vs) H H0 H0 H := by
  obtain ⟨k1, k2⟩ := r.get e
  refine ⟨Stp.refl _ _ _, sub, gen, gn, tabs, nt, fun i s hi => ?_, fun i j a hne h1 h2 h3 => ?_⟩
  · by_cases hl : i < sl.length
    · rw [List.getElem?_append_left hl] at hi
      obtain ⟨v, l1, l2⟩ := k2 i s hi
      refine ⟨some v, ?_, ?_⟩
      · unfold L2.start
        rw [List.getElem?_append_left (by simpa [← k1] using hl), List.getElem?_map, l1]; rfl
      · exact l2.1
    · rw [List.getElem?_append_right (by omega)] at hi
      have hlt : i - sl.length < Nn.length - n := by
        have := (List.getElem?_eq_some_iff.mp hi).1
        simpa using this
      rw [List.getElem?_replicate] at hi
      rw [if_pos hlt] at hi
      cases hi
      refine ⟨none, ?_, trivial⟩
      unfold L2.start
      rw [List.getElem?_append_right (by simp; omega), List.getElem?_replicate, if_pos (by simp; omega)]
  · exfalso
    unfold Own at h1
    by_cases hl : i < sl.length
    · rw [List.getElem?_append_left hl] at h1
      rcases h1 with ⟨ds, h1⟩ | ⟨c, h1⟩
      · obtain ⟨v, l1, l2⟩ := k2 i _ h1
        exact absurd rfl (l2.2.1 _)
      · obtain ⟨v, l1, l2⟩ := k2 i _ h1
        exact absurd rfl (l2.2.2 _)
    · rw [List.getElem?_append_right (by omega), List.getElem?_replicate] at h1
      rcases h1 with ⟨ds, h1⟩ | ⟨c, h1⟩ <;> (split at h1 <;> cases h1)
end PD
set_option Elab.async false
set_option linter.all false
set_option maxRecDepth 100000
set_option autoImplicit false
namespace PD
open PySem PySem.Spec L2

/-! ### a head's hook over told addresses -/
def obsL (as : List Addr) (fa : List He.Fa) (fn : List He.DefD) (tf : List He.Defn) (ex : PySem.W.Frag → Bool) (g : Addr → Option Obj) : He.AlX :=
  (He.obsT fa fn [] (He.frT g as), (match g sysModules with | some ⟨_, _, .dict _ _, _⟩ => true | _ => false) && (ex (He.frT g as) && He.tabsB g tf (He.frT g as)))
/-- the modules' table is a dict -/
def SysOk (h : Heap) : Prop := ∃ c d es n sl, h.get? sysModules = some ⟨c, d, .dict es n, sl⟩
theorem saysL_of {as : List Addr} {fa : List He.Fa} {fn : List He.DefD} {tf : List He.Defn} {ex : PySem.W.Frag → Bool} {w : World} {h : Heap} (e : obsL as fa fn tf ex h.get? = He.valX fn [] w) : He.SaysX fa fn [] tf ex w h (He.frT h.get? as) ∧ SysOk h := by
  have told : He.obsT fa fn [] (He.frT h.get? as) = He.valT fn [] w := congrArg Prod.fst e
  have rest := congrArg Prod.snd e
  have rest : ((match h.get? sysModules with | some ⟨_, _, .dict _ _, _⟩ => true | _ => false) && (ex (He.frT h.get? as) && He.tabsB h.get? tf (He.frT h.get? as))) = true := rest
  rw [Bool.and_eq_true, Bool.and_eq_true] at rest
  obtain ⟨r0, r1, r2⟩ := rest
  have at_ : ∀ p ∈ tf, PySem.W.codeHdIn (He.frT h.get? as) (He.cT (He.frT h.get? as) p).1 (He.cT (He.frT h.get? as) p).2 = true ∧ ∃ o, h.get? (He.cT (He.frT h.get? as) p).2 = some o ∧ He.emptyTab o = true := by
    intro p hp
    have one := List.all_eq_true.mp r2 p hp
    rw [Bool.and_eq_true] at one
    refine ⟨one.1, ?_⟩
    have two := one.2
    split at two
    · exact ⟨_, by assumption, two⟩
    · cases two
  refine ⟨{ t := told, more := r1, hd := fun p hp => (at_ p hp).1, out := fun p hp => ?_, empty := fun p hp => ?_ }, ?_⟩
  · obtain ⟨o, q, z⟩ := (at_ p hp).2
    exact He.frT_none q z
  · obtain ⟨o, q, z⟩ := (at_ p hp).2
    rw [q, He.emptyTab_eq z]
  · split at r0
    · exact ⟨_, _, _, _, _, by assumption⟩
    · cases r0
def hookL (as : List Addr) (fa : List He.Fa) (fn : List He.DefD) (tf : List He.Defn) (ex : PySem.W.Frag → Bool) : PySem.W.Hook where
  α := He.AlX
  obs := fun s => obsL as fa fn tf ex s.heap.get?
  val := fun w => He.valX fn [] w
  says := fun w h => ∃ K : PySem.W.Frag, K.In h ∧ He.SaysX fa fn [] tf ex w h K ∧ SysOk h
  of := fun _ _ e => ⟨_, He.frT_in, saysL_of e⟩
  keeps := fun _ _ _ z k => by
    obtain ⟨K, hK, c, d⟩ := z
    obtain ⟨c1, c2, c3, c4, c5, e⟩ := d
    exact ⟨K, PySem.W.Frag.In.keeps hK k, { t := c.t, more := c.more, hd := c.hd, out := c.out, empty := fun p hp => k _ _ (c.empty p hp) }, c1, c2, c3, c4, c5, k _ _ e⟩
theorem obsL_eq {as : List Addr} {fa : List He.Fa} {fn : List He.DefD} {tf : List He.Defn} {ex : PySem.W.Frag → Bool} {g : Addr → Option Obj} {s : Shared} (h : ∀ a, g a = s.heap.get? a) : obsL as fa fn tf ex g = (hookL as fa fn tf ex).obs s := by
  obtain rfl : g = s.heap.get? := funext h
  rfl
end PD
set_option Elab.async false
set_option linter.all false
set_option maxRecDepth 100000
set_option autoImplicit false
namespace PD
open PySem PySem.Spec L2

/-! ### a law's call: the caller's guards are told -/
abbrev tab0 : Obj := { cls := .none, data := .fields #[] }
/-- what is tracked at the law's entry: the tables of code, and the script where it is no written object -/
def entryH (Ts : List Addr) (K : PySem.W.Frag) (a : Addr) (o : Obj) (ns : List Int) : Hp := fun b =>
  if b ∈ Ts then some (.tbl #[]) else if b = a ∧ K.lookup a = none then some (.frz o (.lst (ns.map V.int))) else none
section
variable {Ts : List Addr} {K : PySem.W.Frag} {a b : Addr} {o : Obj} {ns : List Int}
theorem entryH_tab (h : b ∈ Ts) : entryH Ts K a o ns b = some (.tbl #[]) := if_pos h
theorem entryH_some {u : HO} (e : entryH Ts K a o ns b = some u) : (b ∈ Ts ∧ u = .tbl #[]) ∨ (b ∉ Ts ∧ b = a ∧ K.lookup a = none ∧ u = .frz o (.lst (ns.map V.int))) := by
  unfold entryH at e
  by_cases h : b ∈ Ts
  · rw [if_pos h] at e; cases e; exact .inl ⟨h, rfl⟩
  · rw [if_neg h] at e
    by_cases h2 : b = a ∧ K.lookup a = none
    · rw [if_pos h2] at e; cases e; exact .inr ⟨h, h2.1, h2.2, rfl⟩
    · rw [if_neg h2] at e; cases e
end
section
variable {P : Program} {w : World} {K : PySem.W.Frag} {mg mb : Str → Option Value} {CX : CXT} {k : Nat} {fa a : Addr} {cs : List (Addr × Addr)} {fd : FuncData} {x : Str} {sp : Sp} {s : Shared} {vs : List Value} {ns : List Int}
theorem law_callG (sysD : SysOk s.heap) (inK : K.In s.heap) (gNs : s.heap.Ns mainGlobals mg) (bNs : s.heap.Ns builtinsNs mb) (boot : ∀ x : Str, x ≠ "__name__" → mb x = bootBuiltins x) (free : s.heap.NoLimit) (gens : s.gens = #[])
    (tabs : ∀ p ∈ cs, s.heap.get? p.2 = some tab0) (tabK : ∀ p ∈ cs, K.lookup p.2 = none) (codes : ∀ p ∈ cs, PySem.W.CodeHd s.heap p.1 p.2)
    (bMain : ∃ (bm : Addr) (ob : Obj), mg "__builtins__" = some (.ref bm) ∧ bm ≠ builtinsNs ∧ s.heap.get? bm = some ob ∧ ob.cls = .type "module" ∧ ob.dict = some builtinsNs ∧ ob.data = .plain)
    (scr : s.heap.get? a = some { cls := .type "list", data := .seq vs.toArray }) (isInts : PyProof.Rows.IntsAre vs ns) (len : ns.length ≤ sizeLine) (room : Room k callerA)
    (F : ∀ base : Heap, K.In base → base.Ns mainGlobals mg → (∃ o, base.get? sysModules = some o) → (∀ p ∈ cs, LamX.TabB base mg p.1 p.2) → FnG P w K mg base CX k fa fd [x] sp) (bind : ∀ (s : Shared) (u : Value), BindsTo s fd ⟨[u], []⟩ [(x, u)])
    (start : ∀ H : Hp, (∀ p ∈ cs, H p.2 = some (.tbl #[])) → SqL K H a (ns.map V.int) → (∀ b o kvs, H b ≠ some (.frz o (.dK kvs))) → sp [.ref a] H (fun v _ => v = .bl true) fun _ _ _ => False)
    (noX : ∀ H e s', CX [] H s (fun _ _ _ => False) e s' → False) :
    codeAny (model P w) callerA (.call (.ref fa) ⟨[.ref a], []⟩) (fun r s' => r = .ok (.ret (.bool true)) ∧ OldK s.heap s'.heap ∧ s'.os = s.os ∧ PyProof.Rows.AllBare s'.gens) s := by
  have rel := vals_ints isInts
  have vl := isInts.length
  generalize hTs : cs.map (·.2) = Ts
  have tOf : ∀ {b}, b ∈ Ts → ∃ p ∈ cs, p.2 = b := fun {b} hb => by rw [← hTs] at hb; exact List.mem_map.mp hb
  have tIn : ∀ {p}, p ∈ cs → p.2 ∈ Ts := fun {p} hp => by rw [← hTs]; exact List.mem_map.mpr ⟨p, hp, rfl⟩
  have tabAt : ∀ {b}, b ∈ Ts → s.heap.get? b = some tab0 := fun {b} hb => by
    obtain ⟨p, hp, rfl⟩ := tOf hb
    exact tabs p hp
  have notT : a ∉ Ts := fun z => by
    have q := (tabAt z).symm.trans scr
    have q2 : Data.fields #[] = Data.seq vs.toArray _ := congrArg Obj.data (Option.some.inj q)
    cases q2
  let H : Hp := entryH Ts K a { cls := .type "list", data := .seq vs.toArray } ns
  -- what is not a list, not an empty record, is not tracked
  have bareOf : ∀ {b : Addr} {u : Obj}, s.heap.get? b = some u → (∀ ys n, u.data ≠ .seq ys n) → u.data ≠ .fields #[] → H b = none := fun {b u} e n1 n2 => by
    cases q : H b with
    | none => rfl
    | some t =>
      rcases entryH_some q with ⟨hb, _⟩ | ⟨_, rfl, _, _⟩
      · rw [tabAt hb] at e; cases e; exact absurd rfl n2
      · rw [scr] at e; cases e; exact absurd rfl (n1 _ _)
  have toBase : ∀ {b : Addr} {u : Obj}, s.heap.get? b = some u → H b = none → (hidT s.heap H).get? b = some u := fun e n => hidT_get e n
  have nsBase : ∀ {b : Addr} {m : Str → Option Value}, s.heap.Ns b m → (hidT s.heap H).Ns b m := fun {b m} ⟨u, es, ep, h1, h2, h3⟩ =>
    ⟨u, es, ep, toBase h1 (bareOf h1 (fun ys n z => by rw [h2] at z; cases z) fun z => by rw [h2] at z; cases z), h2, h3⟩
  have kBase : K.In (hidT s.heap H) := fun b u e => toBase (inK b u e) (by
    cases q : H b with
    | none => rfl
    | some t =>
      rcases entryH_some q with ⟨hb, _⟩ | ⟨_, rfl, nk, _⟩
      · obtain ⟨p, hp, rfl⟩ := tOf hb
        rw [tabK p hp] at e; cases e
      · rw [nk] at e; cases e)
  have modB : L2.Mod K mg (hidT s.heap H) := ⟨kBase, nsBase gNs, ⟨mb, nsBase bNs, boot⟩, let ⟨mc, h1, h2⟩ := free; ⟨mc, nsBase h1, h2⟩⟩
  have sysB : ∃ o, (hidT s.heap H).get? sysModules = some o := by
    obtain ⟨c, d, es, n, sl, e⟩ := sysD
    exact ⟨_, toBase e (bareOf e (fun ys n z => by cases z) fun z => by cases z)⟩
  have tabB : ∀ p ∈ cs, LamX.TabB (hidT s.heap H) mg p.1 p.2 := fun p hp => by
    have at2 := tabs p hp
    refine ⟨?_, ?_, fun z => ?_⟩
    · obtain ⟨oc, us, file, tf, flags, tg, inF, text, tt, c1, c2, c3, c4, rest⟩ := codes p hp
      refine ⟨oc, us, file, tf, flags, tg, inF, text, tt, toBase c1 (bareOf c1 (fun ys n z => ?_) fun z => ?_), c2, c3, c4, rest⟩
      · rw [c3] at z; cases z
      · rw [c3] at z; cases z; simp at c4
    · obtain ⟨bm, ob, m1, m2, m3, m4, m5, m6⟩ := bMain
      refine ⟨bm, ob, m1, m2, fun z => ?_, fun z => ?_, toBase m3 (bareOf m3 (fun ys n z => ?_) fun z => ?_), m4, m5, m6⟩
      · obtain ⟨u, es, ep, h1, h2, _⟩ := gNs
        rw [z, h1] at m3; cases m3
        rw [h2] at m6; cases m6
      · rw [z, at2] at m3; cases m3; cases m6
      · rw [m6] at z; cases z
      · rw [m6] at z; cases z
    · obtain ⟨u, es, ep, h1, h2, _⟩ := gNs
      rw [z, at2] at h1; cases h1; cases h2
  have allOk : HOk P w H s.heap := fun b u e => by
    rcases entryH_some e with ⟨hb, rfl⟩ | ⟨_, rfl, _, rfl⟩
    · exact tabAt hb
    · exact ⟨scr, by rw [List.length_map]; exact len, vs, _, rel, scr⟩
  have sq : SqL K H a (ns.map V.int) := by
    cases q : K.lookup a with
    | none => exact .inl (.inr ⟨_, by show entryH _ _ _ _ _ _ = _; unfold entryH; rw [if_neg notT, if_pos ⟨rfl, q⟩]⟩)
    | some u =>
      have e := inK a u q
      rw [scr] at e
      cases e
      exact .inr ⟨_, vs.toArray, _, q, rfl, rfl, rfl, by rw [List.size_toArray, vl]; exact len, by simpa using rel⟩
  have e0 : Env0 P w K mg (hidT s.heap H) callerA [] s H := ⟨rfl, modB, fun b u e => of_hidT e, Nat.le_of_eq (hidT_size _ _), trivial, fun b hb => absurd (show b ∈ ([] : List Addr) from hb) (by simp), allOk, .of_eq gens⟩
  have st := start H (fun p hp => entryH_tab (tIn hp)) sq fun b o kvs e => by
    rcases entryH_some e with ⟨_, z⟩ | ⟨_, _, _, z⟩ <;> cases z
  refine codeAny_mono ((F _ kBase (nsBase gNs) sysB tabB).run callerA [] s H ⟨[.ref a], []⟩ [.ref a] [.ref a] _ _ room rfl e0 (bind s (.ref a)) (.cons rfl .nil) st) fun r s' res => ?_
  match r, res with
  | .error e, res => exact (noX H e s' res).elim
  | .ok .next, res => exact False.elim res
  | .ok .brk, res => exact False.elim res
  | .ok .cont, res => exact False.elim res
  | .ok (.ret u), ⟨v, H', os, bare, un, hok', rv, isT⟩ =>
    have isT : v = .bl true := isT
    subst isT
    obtain rfl : u = Value.bool true := rv
    have same : ∀ b u, b ∉ Ts → s.heap.get? b = some u → s'.heap.get? b = some u := fun b u nb e => by
      cases q : H b with
      | none => exact un.keep b u e q (fun z => absurd (show b ∈ ([] : List Addr) from z) (by simp)) (by simp)
      | some t =>
        rcases entryH_some q with ⟨hb, _⟩ | ⟨_, rfl, _, rfl⟩
        · exact absurd hb nb
        · obtain ⟨h2, _⟩ := hok' _ _ (un.frzs _ _ _ q)
          rw [scr] at e; cases e
          exact h2
    have grown : ∀ {b}, b ∈ Ts → ∃ more : Array Value, s'.heap.get? b = some { cls := .none, data := .fields more } := fun {b} hb => by
      obtain ⟨more, z⟩ := un.tbls b #[] (entryH_tab hb)
      exact ⟨_, hok' b _ z⟩
    refine ⟨rfl, ⟨fun b u e => ?_, fun b u e => ?_⟩, os, bare⟩
    · by_cases hb : b ∈ Ts
      · obtain ⟨p, hp, rfl⟩ := tOf hb
        obtain ⟨more, hm⟩ := grown hb
        rw [tabs p hp] at e
        cases e
        exact .inr (.inl ⟨((codes p hp).tab (tabs p hp)).isCodeTable, rfl, #[], more, rfl, by rw [Array.empty_append]; exact hm⟩)
      · exact .inl (same b u hb e)
    · by_cases hb : b ∈ Ts
      · obtain ⟨more, hm⟩ := grown hb
        exact ⟨_, hm⟩
      · exact ⟨u, same b u hb e⟩
end
/-- what is told of the law's def at the head's heap -/
def LawG (l : PySem.W.OpenLaw) (w : World) (K : PySem.W.Frag) (CX : CXT) (k n : Nat) (x : Str) (mg : Str → Option Value) (fa : Addr) (h : Heap) : Prop :=
  ∃ (fd : FuncData) (cs : List (Addr × Addr)) (sp : Sp), (∀ p ∈ cs, h.get? p.2 = some tab0) ∧ (∀ p ∈ cs, K.lookup p.2 = none) ∧ (∀ p ∈ cs, PySem.W.CodeHd h p.1 p.2) ∧ (∀ (s : Shared) (u : Value), BindsTo s fd ⟨[u], []⟩ [(x, u)]) ∧
    (∀ (H : Hp) (a : Addr) (ns : List Int), ns.length ≤ n → (∀ z ∈ ns, Builtin.Int.intBits z ≤ 1048576) → (∀ p ∈ cs, H p.2 = some (.tbl #[])) → SqL K H a (ns.map V.int) → (∀ b o kvs, H b ≠ some (.frz o (.dK kvs))) → sp [.ref a] H (fun v _ => v = .bl true) fun _ _ _ => False) ∧
    SysOk h ∧ ∀ base : Heap, K.In base → base.Ns mainGlobals mg → (∃ o, base.get? sysModules = some o) → (∀ p ∈ cs, LamX.TabB base mg p.1 p.2) → FnG l.prog w K mg base CX k fa fd [x] sp
theorem walk_ofG {l : PySem.W.OpenLaw} {n k : Nat} {q : Program} {loose : List Str} {XP : (Str → Option Value) → Heap → Prop} {YP : World → Heap → Prop} {d : DefRec} {CX : World → CXT} {x : Str}
    (most : l.most = some n) (few : n ≤ sizeLine) (nodef : d.params.defaults = []) (room : Room k callerA)
    (F : ∀ (w : World) (mg : Str → Option Value) (fa : Addr) (h : Heap), YP w h → h.Ns mainGlobals mg → mg d.name = some (.ref fa) → ∃ K : PySem.W.Frag, K.In h ∧ LawG l w K (CX w) k n x mg fa h)
    (noX : ∀ (w : World) (H : Hp) (s : Shared) (e : Value) (s' : Shared), CX w [] H s (fun _ _ _ => False) e s' → False) :
    PySem.W.WalkO q loose XP YP l.row.toRowW d [] (fun f vs => PySem.call f vs) :=
  Att.attach_callB most nodef fun w _ s1 mg _ fa _ _ _ _ a vs ns G Y _ _ _ isL atA isInts len bits gens => by
    obtain ⟨K, inK, fd, cs, sp, t1, t2, t3, bd, start, sysD, FF⟩ := F w mg fa _ Y G.T.g isL
    exact law_callG sysD inK G.T.g G.T.b G.T.builtins G.T.nolimit gens t1 t2 t3 G.T.bmain atA isInts (Nat.le_trans len few) room FF bd (fun H k1 k2 k3 => start H a ns len bits k1 k2 k3) fun H e s' => noX w H s1 e s'
end PD
set_option Elab.async false
set_option linter.all false
set_option maxRecDepth 100000
set_option autoImplicit false
namespace PD
open PySem PySem.Spec L2

/-! ### classes of errors over ValueError -/
def oexB (K : PySem.W.Frag) (C : Addr) : Bool := (match K.lookup C with
  | some ⟨.type "type", _, .cls ⟨_, _, .ref C' :: bm, _, _, true, _, _, _, _, false⟩, sl⟩ => (match sl.toList with
    | [_, _, _, _, some (.builtin n), _] => C' == C && n == "ValueError.__new__" && PySem.HandSPX.refsVE bm
    | _ => false)
  | _ => false) && (decide (PySem.W.findIn K (.ref C) "__setattr__" = some (some (.builtin "object.__setattr__"))) && (decide (PySem.W.subIn K (.ref C) (.type "BaseException") = some true) &&
    (decide (PySem.W.typeIn K (.ref C) = some (.type "type")) && PySem.W.keepIn K (.ref C))))
theorem oexB_ok {K : PySem.W.Frag} {C : Addr} (h : oexB K C = true) : OexC K C := by
  unfold oexB at h
  simp only [Bool.and_eq_true, decide_eq_true_eq] at h
  obtain ⟨h1, h2, h3, h4, h5⟩ := h
  refine ⟨?_, h2, h3, h4, h5⟩
  split at h1
  · rename_i dd nm bs C' bm N q sn sub ab col sl e
    split at h1
    · rename_i k0 k1 k2 k3 n k5 hs
      simp only [Bool.and_eq_true, beq_iff_eq] at h1
      obtain ⟨⟨rfl, rfl⟩, h8⟩ := h1
      have hsl : sl = #[k0, k1, k2, k3, some (.builtin "ValueError.__new__"), k5] := by
        obtain ⟨l⟩ := sl
        simp only at hs
        rw [hs]
      subst hsl
      exact ⟨_, _, _, _, _, _, _, _, _, _, _, _, _, _, _, e, h8⟩
    · cases h1
  · cases h1
end PD
set_option Elab.async false
set_option linter.all false
set_option maxRecDepth 100000
set_option autoImplicit false
namespace PD
open PySem PySem.Spec L2

def spInit (K : PySem.W.Frag) (attr : Str) : Sp := fun vs H Q _ => ∃ (a C : Addr) (x : V), vs = [.ref a, x] ∧ OexC K C ∧ H a = some (exo a C none) ∧ PySem.W.findIn K (.ref C) attr = some none ∧
  ∀ dx, H dx = none → dx ≠ a → Q .non (upd (upd H dx (exd dx [(attr, x)])) a (exo a C (some dx)))
section
variable {P : Program} {w : World} {K : PySem.W.Frag} {mg : Str → Option Value} {base : Heap}
theorem ok_init {x qual par attr : Str} {params : Arguments} {p1 p2 p3 p4 : Pos} {scope : Scope} {f : Addr} {fd : FuncData} (F : FunD K x qual params [.Assign [.Attribute (.Name "self" p1) attr p2] (.Name par p3) p4] scope [] [] f fd)
    (S : FnScope ["self", par] ["self", par] scope) (v0 : Vis scope "self") (v1 : Vis scope par) (d1 : (par == ("__debug__" : Str)) = false) (d2 : (par == ("__classdict__" : Str)) = false) : FnOk P w K mg base CX0 1 f fd ["self", par] (spInit K attr) := by
  refine F.ok S (fun vs H Q E h => ?_) (fun cdv A outer s H vs Q E hr h => ⟨_, PSs.nox (pss_one (ps_ost (pe_var (i := 0) rfl v0 (by decide) (by decide)) (pe_var (i := 1) rfl v1 d1 d2))), ?_⟩)
  · obtain ⟨a, C, x, rfl, _⟩ := h
    rfl
  · obtain ⟨a, C, x, rfl, T, e, hno, hq⟩ := h
    exact ⟨x, rfl, .ref a, rfl, a, C, rfl, T, hno, .inl ⟨e, fun dx h1 h2 => hq dx h1 h2⟩⟩
end
section
variable {X : Cx}
/-- a reading of arguments, made wide -/
def wideA (ta : TA) : TA := fun σ H Q => ∃ Q0, (∀ vs H', Q0 vs H' → Q vs H') ∧ ta σ H Q0
theorem pa_wide {es : List Expr} {ta : TA} (h : PA X es ta) : PA X es (wideA ta) := ⟨fun pos pins s σ H Q I q => by
  obtain ⟨Q0, m, q⟩ := q
  refine wpAny_mono (h.run pos pins s σ H Q0 I q) (fun us s' z => ?_) fun _ _ z => z
  obtain ⟨vs, H', I', r, z⟩ := z
  exact ⟨vs, H', I', r, m _ _ z⟩⟩
theorem excOk_of {S : Sig} {c attr par : Str} {C fI : Addr} {fd : FuncData} (T : OexC X.K C) (iC : PySem.W.findIn X.K (.ref C) "__init__" = some (some (.ref fI))) (tI : PySem.W.typeIn X.K (.ref fI) = some (.type "function"))
    (F1 : FnOk X.prog X.w X.K X.mg X.base CX0 1 fI fd ["self", par] (spInit X.K attr)) (hr : Room 2 X.A) (hb : Binds X.K fd ["self", par] []) (hno : PySem.W.findIn X.K (.ref C) attr = some none)
    (hg : Gl X c) (hm : X.mg c = some (.ref C)) (hd : (c == ("__debug__" : Str)) = false) (e1 : S.cl c = C) (e2 : S.at_ c = attr) : ExcOk X S c := by
  intro a ta p pos ha he
  have h := pmk_oex (pos := pos) (p := p) T iC tI F1 hr hb .nil pass0 hg hm (pa_wide ha) hd he rfl
  intro pins s σ H Q I q
  refine h pins s σ H Q I ?_
  refine ⟨_, fun vs H1 z => ?_, q⟩
  obtain ⟨v, rfl, z⟩ := z
  refine ⟨by simp, fun a na => ⟨a, C, v, rfl, T, upd_same, hno, fun dx hdx nda => ?_⟩⟩
  have h1 : H1 dx = none := by rw [upd_ne nda] at hdx; exact hdx
  refine ⟨rfl, dx, [(attr, v)], upd_same, by rw [upd_ne nda, upd_same], h1, ?_⟩
  have z := z dx h1
  rw [e1, e2] at z
  have eq : upd (L2.del (upd (upd (upd H1 a (exo a C none)) dx (exd dx [(attr, v)])) a (exo a C (some dx))) a) dx (.xd [(attr, v)]) = upd H1 dx (.xd [(attr, v)]) := by
    funext b
    by_cases hb : b = dx
    · rw [hb, upd_same, upd_same]
    · rw [upd_ne hb, upd_ne hb]
      by_cases h2 : b = a
      · rw [h2, del_same, na]
      · rw [del_ne h2, upd_ne h2, upd_ne hb, upd_ne h2]
  rw [eq]
  exact z
end
end PD
set_option Elab.async false
set_option linter.all false
set_option maxRecDepth 100000
set_option autoImplicit false
namespace PD
open PySem PySem.Spec L2 PySem.Builtin PySem.Builtin.ObjectAttr

/-! ### classes of errors over a built-in class other than ValueError -/
structure OexG (K : PySem.W.Frag) (C : Addr) (bmB : List Value) (newId : String) : Prop where
  cls : ∃ nm q N bs bm sn sub ab col dd k0 k1 k2 k3 k5, K.lookup C = some (excClassObj nm q C N bs bm true sn sub ab col dd k0 k1 k2 k3 k5 newId) ∧ PySem.W.excTail bmB bm = true
  sets : PySem.W.findIn K (.ref C) "__setattr__" = some (some (.builtin "object.__setattr__"))
  isE : PySem.W.subIn K (.ref C) (.type "BaseException") = some true
  isT : PySem.W.typeIn K (.ref C) = some (.type "type")
  kept : PySem.W.keepIn K (.ref C) = true
def oegB (K : PySem.W.Frag) (C : Addr) (bmB : List Value) (newId : String) : Bool := (match K.lookup C with
  | some ⟨.type "type", _, .cls ⟨_, _, .ref C' :: bm, _, _, true, _, _, _, _, false⟩, sl⟩ => (match sl.toList with
    | [_, _, _, _, some (.builtin n), _] => decide (C' = C) && (decide (n = newId) && PySem.W.excTail bmB bm)
    | _ => false)
  | _ => false) && (decide (PySem.W.findIn K (.ref C) "__setattr__" = some (some (.builtin "object.__setattr__"))) && (decide (PySem.W.subIn K (.ref C) (.type "BaseException") = some true) &&
    (decide (PySem.W.typeIn K (.ref C) = some (.type "type")) && PySem.W.keepIn K (.ref C))))
theorem oegB_ok {K : PySem.W.Frag} {C : Addr} {bmB : List Value} {newId : String} (h : oegB K C bmB newId = true) : OexG K C bmB newId := by
  unfold oegB at h
  simp only [Bool.and_eq_true, decide_eq_true_eq] at h
  obtain ⟨h1, h2, h3, h4, h5⟩ := h
  refine ⟨?_, h2, h3, h4, h5⟩
  split at h1
  · rename_i dd nm bs C' bm N q sn sub ab col sl e
    split at h1
    · rename_i k0 k1 k2 k3 n k5 hs
      simp only [Bool.and_eq_true, decide_eq_true_eq] at h1
      obtain ⟨rfl, rfl, h8⟩ := h1
      have hsl : sl = #[k0, k1, k2, k3, some (.builtin n), k5] := by
        obtain ⟨l⟩ := sl
        simp only at hs
        rw [hs]
      subst hsl
      exact ⟨_, _, _, _, _, _, _, _, _, _, _, _, _, _, _, e, h8⟩
    · cases h1
  · cases h1
section
variable {X : Cx} {pins : List (Addr × Obj)} {σ : L2.St} {H : Hp} {s : Shared} {a C : Addr} {f : Str} {y : V} {u : Value} {Q : Unit → Shared → Prop} {E : Value → Shared → Prop} {A : Around} {B newId initId : String} {bmB : List Value}
/-- the first store into such an error -/
theorem setG (T : OexG X.K C bmB newId) (SF : StoreFacts B bmB "object.__setattr__" "object") (I : Inv X pins σ H s) (here : H a = some (exo a C none)) (no : PySem.W.findIn X.K (.ref C) f = some none) (ry : RelV y u)
    (fin : ∀ dx s', H dx = none → dx ≠ a → Inv X pins σ (upd (upd H dx (exd dx [(f, y)])) a (exo a C (some dx))) s' → Q () s') : wpAny (model X.prog X.w) A (setAttr (.ref a) f u) Q E s := by
  obtain ⟨nm, q, N, bs, bm, sn, sub, ab, col, dd, k0, k1, k2, k3, k5, hC, tail⟩ := T.cls
  have clsE : PySem.W.clsIn X.K C = some { name := nm, bases := bs, mro := .ref C :: bm, ns := N, qualname := q, hasDict := true, slotNames := sn, subclasses := sub, abstract := ab, collection := col, hasDel := false } := by
    unfold PySem.W.clsIn
    rw [hC] <;> rfl
  have over : PySem.W.excOver X.K C bmB = true := by
    unfold PySem.W.excOver
    rw [clsE]
    simp [tail]
  have taker : PySem.W.takerIn X.K C f = some none := by
    unfold PySem.W.takerIn
    rw [no] <;> rfl
  obtain ⟨t1, ho⟩ := exo_at I.hok here
  obtain ⟨hp, g, d, t, os⟩ := s
  have at_ : PySem.W.InstAt hp a ({ cls := .ref C, dict := none, data := .fields #[.ref t1, .none, .none, .none, .bool false, .none] } : Obj) C none := ⟨ho, rfl, rfl, trivial⟩
  refine PySem.W.set_plain I.kIn at_ T.sets (PySem.W.osa_openX SF I.kIn at_ over taker fun b => ?_)
  have lc : PySem.W.Looks (model X.prog X.w) hp (classData C) _ := PySem.W.looks_clsIn I.kIn clsE
  have ne : a ≠ hp.objs.size := Nat.ne_of_lt (Heap.lt_size ho)
  show wpAny _ _ (storeInOwnDict (.ref a) (.ref C) (.str f _) f u b) _ _ _
  unfold storeInOwnDict ownDictForStores
  repeat (first | with_reducible refine PySem.HandSPX.store_in_new ?_ ?_ | with_reducible refine wpAny_loadPart_at ho ?_ | with_reducible refine lc.at ?_ | wp_step)
  · exact ⟨_, #[], _, (Heap.get?_update_ne _ _ _ _ ne.symm).trans (Heap.get?_push_at rfl rfl), rfl, fun e he => absurd he (by simp), fun _ => rfl⟩
  intro h' tk' ns' same
  have ha' : (hp.push { cls := .type "dict", data := .dict #[] }).get? a = some _ := Heap.get?_push_of_some _ ho
  have new : h'.get? a = some { cls := .ref C, dict := some hp.objs.size, data := .fields #[.ref t1, .none, .none, .none, .bool false, .none] } := (same.2 a ne).trans (Heap.get?_update_self _ ha' rfl)
  have old : ∀ b o, b ≠ a → hp.get? b = some o → h'.get? b = some o := fun b o nb q => (same.2 b (Nat.ne_of_lt (Heap.lt_size q))).trans ((Heap.get?_update_ne _ _ _ _ nb).trans (Heap.get?_push_of_some _ q))
  have nD : H hp.objs.size = none := I.hok.fresh (Nat.le_refl _)
  have offA : ∀ {b : Addr}, H b = none → b ≠ a := fun n z => by rw [z, here] at n; cases n
  have offD : ∀ {b : Addr} {o : Obj}, hp.get? b = some o → b ≠ hp.objs.size := fun q => Nat.ne_of_lt (Heap.lt_size q)
  have stay : ∀ {b : Addr} {o : HO}, H b = some o → exo a C none ≠ o → (upd (upd H hp.objs.size (exd hp.objs.size [(f, y)])) a (exo a C (some hp.objs.size))) b = some o := fun {b o} q z => by
    rw [upd_ne (at_ne here q z), upd_ne (ne_of_none q nD)]; exact q
  have un : Un X.fs [] H (upd (upd H hp.objs.size (exd hp.objs.size [(f, y)])) a (exo a C (some hp.objs.size))) hp h' :=
    { keep := fun b o q n _ _ => old b o (offA n) q, slot := fun b o q n _ _ => ⟨o.slots, old b o (offA n) q⟩
      free := fun b o q n _ => by rw [upd_ne (offA n), upd_ne (offD q)]; exact n
      there := fun b o q _ => by
        rcases Nat.decEq b a with nb | eb
        · exact ⟨o, old b o nb q⟩
        · subst eb; exact ⟨_, new⟩
      tups := fun b xs q => stay q exo_tup, frzs := fun b o v q => stay q exo_frz
      tbls := fun b ps q => ⟨#[], by rw [stay q exo_tbl]; simp⟩ }
  refine fin hp.objs.size _ nD ne.symm (I.un (t' := tk') un fun b o q => ?_)
  rcases Nat.decEq b a with nb | eb
  · rw [upd_ne nb] at q
    rcases Nat.decEq b hp.objs.size with nd | ed
    · rw [upd_ne nd] at q
      exact (I.hok b o q).stay (fun c v hc z => old c v (hc.elim (fun e => by rw [e]; exact nb) fun e => at_ne here e exo_own) z) (fun c hc => stay hc exo_own) (fun c xs hc => stay hc exo_tup)
    · subst ed
      rw [upd_same] at q
      cases q
      exact exd_ok ns' (relO_put (fs := []) ry fun _ => True.intro)
  · subst eb
    rw [upd_same] at q
    cases q
    exact exo_ok new
end
def spInitG (K : PySem.W.Frag) (attr : Str) (bmB : List Value) (newId : String) : Sp := fun vs H Q _ => ∃ (a C : Addr) (x : V), vs = [.ref a, x] ∧ OexG K C bmB newId ∧ H a = some (exo a C none) ∧ PySem.W.findIn K (.ref C) attr = some none ∧
  ∀ dx, H dx = none → dx ≠ a → Q .non (upd (upd H dx (exd dx [(attr, x)])) a (exo a C (some dx)))
def tSetG (K : PySem.W.Frag) (f : Str) (bmB : List Value) (newId : String) (to te : TE) : TS := fun D σ H => te σ H fun y H1 => to σ H1 fun x H2 => ∃ a C : Addr, x = .ref a ∧ OexG K C bmB newId ∧ PySem.W.findIn K (.ref C) f = some none ∧ H2 a = some (exo a C none) ∧
  ∀ dx, H2 dx = none → dx ≠ a → D.nx σ (upd (upd H2 dx (exd dx [(f, y)])) a (exo a C (some dx)))
section
variable {X : Cx} {o e : Expr} {es : List Expr} {to te : TE} {ta : TA} {f : Str} {p p' pos : Pos} {B newId initId : String} {bmB : List Value}
theorem ps_setG (SF : StoreFacts B bmB "object.__setattr__" "object") (ho : PE X o to) (he : PE X e te) (hs : swapsWith e (some (.Attribute o f p')) pos.line X.env = pure false := by rfl) : PS X (.Assign [.Attribute o f p'] e pos) (tSetG X.K f bmB newId to te) := ⟨fun pins s σ H D I h => by
  refine plainObj_wpAny_Assign_Attribute (thn (he.run pins s σ H _ I h) fun v s1 z1 => ?_) hs
  obtain ⟨y, H1, I1, r1, q1⟩ := z1
  refine thn (ho.run pins s1 σ H1 _ I1 q1) fun u s2 z2 => ?_
  obtain ⟨x, H2, I2, r2, a, C, ex, T, no, ea, q⟩ := z2
  subst ex
  obtain rfl : u = Value.ref a := r2
  exact setG T SF I2 ea no r1 fun dx s' n ne J => ⟨σ, _, J, q dx n ne⟩⟩
theorem pmkG {CX : CXT} {x : Str} {C fI : Addr} {k : Nat} {fd : FuncData} {ps : List Str} {sp : Sp} (T : OexG X.K C bmB newId) (EB : ExcBaseFacts B newId initId bmB) (iC : PySem.W.findIn X.K (.ref C) "__init__" = some (some (.ref fI))) (tI : PySem.W.typeIn X.K (.ref fI) = some (.type "function"))
    (F1 : FnOk X.prog X.w X.K X.mg X.base CX k fI fd ps sp) (hr : Room (k + 1) X.A) (hb : Binds X.K fd ps []) (hx : Passes CX X (fun _ _ _ => False)) (hg : Gl X x) (hm : X.mg x = some (.ref C)) (ha : PA X (e :: es) ta) (hdb : (x == ("__debug__" : Str)) = false)
    (he : starEach (e :: es) X.env = (false, eval e X.env) :: starEach es X.env) (hpl : (backTo pos (starEach es X.env)).any (·.1) = false) : PMk X (.Call (.Name x p) (e :: es) [] pos) (tMkO C sp [] ta) := by
  intro pins s σ H Q I h
  obtain ⟨nm, q, N, bs, bm, sn, sub, ab, col, dd, k0, k1, k2, k3, k5, hC, tail⟩ := T.cls
  have mro : ∀ Y : String, bm.contains (.type Y) = bmB.contains (.type Y) := fun Y => PySem.W.excTail_contains Y bm tail
  refine wpAny_Call_Name_kw (ld_glob I hg hm ?_ hdb)
  refine PySem.W.callWith_K (h₀ := X.base) I.ok.mod.kin T.kept (thn (ha.run pos pins s σ H _ I h) fun us s1 z => ?_) he hpl
  obtain ⟨vs, H1, I1, r1, few, go⟩ := z
  refine ⟨I1.kIn, ?_⟩
  show wpAny _ _ (call (.ref C) us) _ _ _
  obtain ⟨hp, g, dr, tk, os⟩ := s1
  -- the arguments' tuple at the heap's end, the error behind it
  have above : hp.objs.size ≤ hp.objs.size + 1 := Nat.le_succ _
  have go := go _ (I1.hok.fresh above)
  have made : ((hp.push (PySem.W.kdv_tup us)).push (PySem.HandSPX.excO C hp.objs.size)).get? (hp.objs.size + 1) = some (PySem.HandSPX.excO C hp.objs.size) := by heap_get
  have kept : ∀ b o, hp.get? b = some o → ((hp.push (PySem.W.kdv_tup us)).push (PySem.HandSPX.excO C hp.objs.size)).get? b = some o := fun b o z => Heap.get?_push_of_some _ (Heap.get?_push_of_some _ z)
  have I2 := I1.laid (t' := tk) (a := hp.objs.size + 1) (o := exo (hp.objs.size + 1) C none) kept above (exo_ok made)
  have r2 : Vals (V.ref (hp.objs.size + 1) :: (vs ++ [])) (Value.ref (hp.objs.size + 1) :: us) := .cons rfl (by rw [List.append_nil]; exact r1)
  have len := F1.len _ _ _ _ go
  rw [r2.length] at len
  have fits : us.length ≤ sizeLine := by
    have := Paired.length r1
    rw [sizeLine_eq]; omega
  have bind := hb ⟨_, g, dr, tk, os⟩ (Value.ref (hp.objs.size + 1) :: us) I2.kIn (by rw [List.append_nil]; exact len)
  rw [List.append_nil] at bind
  refine wpAny_call (PySem.HandSPX.call_own EB mro (I1.kIn _ _ hC) (PySem.W.looks_findIn I1.kIn iC) (fun self => PySem.W.bind_fn I1.kIn self tI) fits
    (codeAny_mono (F1.run _ X.stack _ _ ⟨Value.ref (hp.objs.size + 1) :: us, []⟩ (Value.ref (hp.objs.size + 1) :: us) _ _ (fun _ _ _ => False) (hr.make C us []) (I2.env0.make C us []) bind r2 go) fun r s' out => ?_))
  match r, out with
  | .error er, out => exact hx pins σ _ _ er s' I2 out
  | .ok (.ret u), out =>
    obtain ⟨v, H2, os2, bare2, un2, hok2, rv, ev, d, fs, ea, ed, hd1, q2⟩ := out
    subst ev
    obtain ⟨h2, g2, d2, t2, os'⟩ := s'
    exact ⟨rv, mk_end (raises_own T.isE T.isT) I1 above kept un2 hok2 os2 bare2 ea ed hd1 q2⟩
  | .ok .next, out => exact False.elim out
  | .ok .brk, out => exact False.elim out
  | .ok .cont, out => exact False.elim out
end
section
variable {P : Program} {w : World} {K : PySem.W.Frag} {mg : Str → Option Value} {base : Heap} {B newId initId : String} {bmB : List Value}
theorem ok_initG {x qual par attr : Str} {params : Arguments} {p1 p2 p3 p4 : Pos} {scope : Scope} {f : Addr} {fd : FuncData} (SF : StoreFacts B bmB "object.__setattr__" "object") (F : FunD K x qual params [.Assign [.Attribute (.Name "self" p1) attr p2] (.Name par p3) p4] scope [] [] f fd)
    (S : FnScope ["self", par] ["self", par] scope) (v0 : Vis scope "self") (v1 : Vis scope par) (d1 : (par == ("__debug__" : Str)) = false) (d2 : (par == ("__classdict__" : Str)) = false) : FnOk P w K mg base CX0 1 f fd ["self", par] (spInitG K attr bmB newId) := by
  refine F.ok S (fun vs H Q E h => ?_) (fun cdv A outer s H vs Q E hr h => ⟨_, PSs.nox (pss_one (ps_setG (newId := newId) SF (pe_var (i := 0) rfl v0 (by decide) (by decide)) (pe_var (i := 1) rfl v1 d1 d2))), ?_⟩)
  · obtain ⟨a, C, x, rfl, _⟩ := h
    rfl
  · obtain ⟨a, C, x, rfl, T, e, no, hq⟩ := h
    exact ⟨x, rfl, .ref a, rfl, a, C, rfl, T, no, e, fun dx h1 h2 => hq dx h1 h2⟩
end
theorem excOk_ofG {X : Cx} {S : Sig} {c attr par : Str} {C fI : Addr} {fd : FuncData} {B newId initId : String} {bmB : List Value} (T : OexG X.K C bmB newId) (EB : ExcBaseFacts B newId initId bmB) (iC : PySem.W.findIn X.K (.ref C) "__init__" = some (some (.ref fI))) (tI : PySem.W.typeIn X.K (.ref fI) = some (.type "function"))
    (F1 : FnOk X.prog X.w X.K X.mg X.base CX0 1 fI fd ["self", par] (spInitG X.K attr bmB newId)) (hr : Room 2 X.A) (hb : Binds X.K fd ["self", par] []) (hno : PySem.W.findIn X.K (.ref C) attr = some none)
    (hg : Gl X c) (hm : X.mg c = some (.ref C)) (hd : (c == ("__debug__" : Str)) = false) (e1 : S.cl c = C) (e2 : S.at_ c = attr) : ExcOk X S c := by
  intro a ta p pos ha he
  have h := pmkG (pos := pos) (p := p) T EB iC tI F1 hr hb pass0 hg hm (pa_wide ha) hd he rfl
  intro pins s σ H Q I q
  refine h pins s σ H Q I ?_
  refine ⟨_, fun vs H1 z => ?_, q⟩
  obtain ⟨v, rfl, z⟩ := z
  refine ⟨by simp, fun a na => ⟨a, C, v, rfl, T, upd_same, hno, fun dx hdx nda => ?_⟩⟩
  have h1 : H1 dx = none := by rw [upd_ne nda] at hdx; exact hdx
  refine ⟨rfl, dx, [(attr, v)], upd_same, by rw [upd_ne nda, upd_same], h1, ?_⟩
  have z := z dx h1
  rw [e1, e2] at z
  have eq : upd (L2.del (upd (upd (upd H1 a (exo a C none)) dx (exd dx [(attr, v)])) a (exo a C (some dx))) a) dx (.xd [(attr, v)]) = upd H1 dx (.xd [(attr, v)]) := by
    funext b
    by_cases hb : b = dx
    · rw [hb, upd_same, upd_same]
    · rw [upd_ne hb, upd_ne hb]
      by_cases h2 : b = a
      · rw [h2, del_same, na]
      · rw [del_ne h2, upd_ne h2, upd_ne hb, upd_ne h2]
  rw [eq]
  exact z
end PD
set_option Elab.async false
set_option linter.all false
set_option maxRecDepth 100000
set_option autoImplicit false
namespace PD
open PySem PySem.Spec L2

/-! ### constants of the module -/
def all2 (f : Value → D → Bool) : List Value → List D → Bool
  | [], [] => true
  | u :: us, d :: ds => f u d && all2 f us ds
  | _, _ => false
def drB (K : PySem.W.Frag) : Nat → Value → D → Bool
  | 0, _, _ => false
  | n + 1, u, d => match u, d with
    | .none, .none => true
    | .bool b, .bool c => b == c
    | .int i _, .int j => decide (i = j)
    | .str x _, .str y => decide (x = y)
    | .ref a, .tuple ds => (match K.lookup a with
      | some ⟨.type c, _, .seq its _, _⟩ => decide (c = "tuple") && (decide (its.size ≤ sizeLine) && all2 (drB K n) its.toList ds)
      | _ => false)
    | _, _ => false
theorem all2_ok {K : KW} {f : Value → D → Bool} (h : ∀ u d, f u d = true → ∃ v, RelV v u ∧ ∀ H, Dr K H v d) : ∀ {us : List Value} {ds : List D}, all2 f us ds = true → ∃ vs, Vals vs us ∧ ∀ H, DrAll K H vs ds
  | [], [], _ => ⟨[], .nil, fun _ => .nil⟩
  | [], _ :: _, e => by cases e
  | _ :: _, [], e => by cases e
  | u :: us, d :: ds, e => by
    unfold all2 at e
    rw [Bool.and_eq_true] at e
    obtain ⟨v, r, q⟩ := h u d e.1
    obtain ⟨vs, rs, qs⟩ := all2_ok h e.2
    exact ⟨v :: vs, .cons r rs, fun H => .cons (q H) (qs H)⟩
theorem drB_ok {K : KW} : ∀ (n : Nat) (u : Value) (d : D), drB K n u d = true → ∃ v, RelV v u ∧ ∀ H, Dr K H v d := by
  intro n
  induction n with
  | zero => intro u d e; cases e
  | succ n ih =>
    intro u d e
    unfold drB at e
    split at e
    · exact ⟨.non, rfl, fun _ => .non⟩
    · have e := eq_of_beq e
      subst e
      exact ⟨.bl _, rfl, fun _ => .bl _⟩
    · have e := of_decide_eq_true e
      subst e
      exact ⟨.int _, ⟨_, rfl⟩, fun _ => .int _⟩
    · have e := of_decide_eq_true e
      subst e
      exact ⟨.str _, ⟨_, rfl⟩, fun _ => .str _⟩
    · rename_i a ds
      split at e
      · rename_i c od its k sl lk
        simp only [Bool.and_eq_true, decide_eq_true_eq] at e
        obtain ⟨rfl, h1, h2⟩ := e
        obtain ⟨vs, r, q⟩ := all2_ok ih h2
        exact ⟨.ref a, rfl, fun H => .tup (.inr ⟨_, its, k, lk, rfl, rfl, h1, r⟩) (q H)⟩
      · cases e
    · cases e
def ndB (K : PySem.W.Frag) (u : Value) : Bool := match u with
  | .ref a => (match K.lookup a with
    | some ⟨.type c, none, _, _⟩ => decide (c = "tuple")
    | _ => false)
  | _ => false
theorem ndB_ok {K : PySem.W.Frag} {u : Value} {v : V} {d : D} (r : RelV v u) (h : (!isTupD d || ndB K u) = true) : TupK K v d := fun ht => by
  rw [ht] at h
  have h : ndB K u = true := by simpa using h
  unfold ndB at h
  split at h
  · rename_i a
    split at h
    · rename_i c dt sl e
      have h := of_decide_eq_true h
      subst h
      cases v with
      | ref p => cases r; exact ⟨_, _, rfl, e, rfl, rfl⟩
      | non => cases r
      | bl b => cases r
      | int i => obtain ⟨t, r⟩ := r; cases r
      | str x => obtain ⟨t, r⟩ := r; cases r
      | byt b => obtain ⟨t, r⟩ := r; cases r
      | flt b => obtain ⟨t, r⟩ := r; cases r
      | ty n => cases r
    · cases h
  · cases h
def constB (K : PySem.W.Frag) (q : Str × D) : Bool := match PySem.W.nsIn K mainGlobals q.1 with
  | some (some u) => drB K 9 u q.2 && (!isTupD q.2 || ndB K u)
  | _ => false
theorem constB_ok {K : KW} {h : Heap} {mg : Str → Option Value} (X : K.k.In h) (G : h.Ns mainGlobals mg) {x : Str} {d : D} (c : constB K (x, d) = true) : ∃ u v, mg x = some u ∧ RelV v u ∧ (∀ H, Dr K H v d) ∧ TupK K v d := by
  unfold constB at c
  split at c
  · rename_i u e
    rw [Bool.and_eq_true] at c
    obtain ⟨v, r, q⟩ := drB_ok _ _ _ c.1
    exact ⟨u, v, PySem.W.mg_of X G e, r, q, ndB_ok r c.2⟩
  · cases c
/-- an error's class, as the head tells it -/
def leT : List Value := [.type "LookupError", .type "Exception", .type "BaseException", .type "object"]
def oeT : List Value := [.type "OverflowError", .type "ArithmeticError", .type "Exception", .type "BaseException", .type "object"]
def excB (K : PySem.W.Frag) (q : Str × Str) : Bool := (oexB K (He.ga K q.1) || (oegB K (He.ga K q.1) leT "LookupError.__new__" || oegB K (He.ga K q.1) oeT "OverflowError.__new__")) && (decide (PySem.W.findIn K (.ref (He.ga K q.1)) "__init__" = some (some (.ref (He.ma K (He.ga K q.1) "__init__")))) &&
  (decide (PySem.W.typeIn K (.ref (He.ma K (He.ga K q.1) "__init__")) = some (.type "function")) && decide (PySem.W.findIn K (.ref (He.ga K q.1)) q.2 = some none))) && (xfB K (He.ga K q.1) && (decide (PySem.W.exmOne K (.ref (He.ga K q.1)) (.ref (He.ga K q.1)) = some true) && (!placeC q.1 || decide (q.2 = "place"))))
/-- all that the head's Bool tells -/
def moreB (consts : List (Str × D)) (excs : List (Str × Str)) (K : PySem.W.Frag) : Bool := consts.all (constB K) && excs.all (excB K)
theorem opt_get {α : Type} {o : Option (List α)} (h : o.isSome = true) : o = some (o.getD []) := by
  cases o with
  | none => cases h
  | some x => rfl
theorem lookup_memD : ∀ {l : List (Str × D)} {x : Str} {d : D}, l.lookup x = some d → (x, d) ∈ l
  | [], _, _, h => by cases h
  | (y, e) :: r, x, d, h => by
    rw [List.lookup_cons] at h
    cases q : x == y with
    | true =>
      rw [q] at h
      cases h
      rw [eq_of_beq q]
      exact List.mem_cons_self
    | false =>
      rw [q] at h
      exact List.mem_cons_of_mem _ (lookup_memD h)
/-- what the classes' texts are: name, attribute, parameter, its place -/
structure ExcTx (K : PySem.W.Frag) (c attr : Str) : Prop where
  ex : ∃ (x qual par : Str) (params : Arguments) (p1 p2 p3 p4 : Pos) (scope : Scope) (fd : FuncData), FunD K x qual params [.Assign [.Attribute (.Name "self" p1) attr p2] (.Name par p3) p4] scope [] [] (He.ma K (He.ga K c) "__init__") fd ∧
    FnScope ["self", par] ["self", par] scope ∧ Vis scope "self" ∧ Vis scope par ∧ (par == ("__debug__" : Str)) = false ∧ (par == ("__classdict__" : Str)) = false ∧ Binds K fd ["self", par] []
end PD
set_option Elab.async false
set_option linter.all false
set_option maxRecDepth 100000
set_option autoImplicit false
namespace PD
open PySem PySem.Spec L2

/-! ### a caught error, held as a value -/
def exv (a : Addr) (cls : Value) (d : Option Addr) : HO := .ext fun h => ∃ (oe : Obj) (vs : Array Value), h.get? a = some oe ∧ Zc cls d oe ∧ oe.data = .fields vs
section
variable {X : Cx} {pins : List (Addr × Obj)} {σ : L2.St} {H : Hp} {s : Shared} {a : Addr} {oe : Obj} {vs : Array Value} {cls : Value} {d : Option Addr}
theorem Inv.hold (I : Inv X ((a, oe) :: pins) σ H s) (n0 : X.s_0.heap.get? a = none) (np : ∀ p ∈ X.pn ++ pins, p.1 ≠ a) (hz : Zc cls d oe) (hd : oe.data = .fields vs) : Inv X pins σ (upd H a (exv a cls d)) s := by
  obtain ⟨k1, k2, k3, k4, k5⟩ := I.pin (a, oe) (by simp)
  have ne : ∀ {b u}, H b = some u → b ≠ a := fun {b u} e => ne_of_none e k2
  have n0' : ∀ {b o}, X.s_0.heap.get? b = some o → b ≠ a := fun {b o} e z => by rw [z, n0] at e; cases e
  refine ⟨I.ok, I.os, I.bare, ⟨I.base.keep, I.base.slot, fun b o e n hx => ?_, I.base.there, fun b xs e => ?_, fun b o u e => ?_, fun b ps e => ?_⟩, I.loc, I.cell, ?_, fun x c e => ?_, fun p hp => ?_, ?_, I.len⟩
  · rw [upd_ne (n0' e)]; exact I.base.free b o e n hx
  · have z := I.base.tups b xs e
    rw [upd_ne (ne z)]; exact z
  · have z := I.base.frzs b o u e
    rw [upd_ne (ne z)]; exact z
  · obtain ⟨more, z⟩ := I.base.tbls b ps e
    exact ⟨more, by rw [upd_ne (ne z)]; exact z⟩
  · rw [upd_ne (Ne.symm k3)]; exact I.free
  · have hc : c ≠ a := fun z => by
      obtain ⟨v, o, ho, hv⟩ := I.cell x c e
      rw [z, k1] at ho
      cases ho
      exact k5 v hv
    rw [upd_ne hc]; exact I.freeC x c e
  · obtain ⟨m1, m2, m3⟩ := I.pin p (by
      rcases List.mem_append.mp hp with z | z
      · exact List.mem_append_left _ z
      · exact List.mem_append_right _ (List.mem_cons_of_mem _ z))
    exact ⟨m1, by rw [upd_ne (np p hp)]; exact m2, m3⟩
  · exact L2.HOk.laidN I.hok (fun _ _ z => z) k2 ⟨⟨oe, vs, k1, hz, hd⟩, ⟨oe, k1⟩, fun _ _ ⟨o, v, q, r⟩ k => ⟨o, v, k o q, r⟩⟩
theorem exv_at (I : Inv X pins σ H s) {D dx : Addr} {fs : List (Str × V)} (h1 : H a = some (exv a (.ref D) (some dx))) (h2 : H dx = some (.xd fs)) : ∃ oe od mA, PySem.W.InstAt s.heap a oe D (some od) ∧ s.heap.Ns1 dx mA ∧ s.heap.get? dx = some od ∧ (∀ f, RelO (fs.lookup f) (mA f)) := by
  have x : ObjOk X.prog X.w H s.heap a (.ext fun h => ∃ (oe : Obj) (vs : Array Value), h.get? a = some oe ∧ Zc (.ref D) (some dx) oe ∧ oe.data = .fields vs) := I.hok a _ h1
  obtain ⟨oe, vs, e1, e2, e3⟩ := x.1
  obtain ⟨mA, hns, hr⟩ := (show ObjOk X.prog X.w H s.heap dx (.xd fs) from I.hok dx _ h2)
  obtain ⟨od, es, ep, ho, hrest⟩ := id hns
  exact ⟨oe, od, mA, ⟨e1, e2.1, by unfold PySem.W.notCls; rw [e3] <;> rfl, by rw [e2.2]; exact ho⟩, hns, ho, hr⟩
end
/-- what a class of errors must say, so that its instances are asked rightly -/
structure XvC (K : PySem.W.Frag) (D : Addr) : Prop where
  cl : (PySem.W.clsIn K D).isSome = true
  xf : XfC K D
  ha : PySem.W.findIn K (.ref D) "__class__" = some (some (.builtin "object.__class__"))
  hn : PySem.W.specialIn K (.builtin "object.__class__") "__get__" = some (some (.builtin "getset_descriptor.__get__"))
  ht : PySem.W.takesIn K (.builtin "object.__class__") = some true
  hm : PySem.W.mroIn K D (.type "object") = some true
def xvB (K : PySem.W.Frag) (D : Addr) : Bool := (PySem.W.clsIn K D).isSome && (xfB K D && (decide (PySem.W.findIn K (.ref D) "__class__" = some (some (.builtin "object.__class__"))) &&
  (decide (PySem.W.specialIn K (.builtin "object.__class__") "__get__" = some (some (.builtin "getset_descriptor.__get__"))) && (decide (PySem.W.takesIn K (.builtin "object.__class__") = some true) && decide (PySem.W.mroIn K D (.type "object") = some true)))))
theorem xvB_ok {K : PySem.W.Frag} {D : Addr} (h : xvB K D = true) : XvC K D := by
  unfold xvB at h
  simp only [Bool.and_eq_true, decide_eq_true_eq] at h
  obtain ⟨h1, h2, h3, h4, h5, h6⟩ := h
  exact ⟨h1, xfB_ok h2, h3, h4, h5, h6⟩
/-- isinstance(e, C), e such an error -/
def rIsV (K : PySem.W.Frag) : List V → Hp → VK → Prop := fun xs H Q => ∃ (a C D dx : Addr) (fs : List (Str × V)) (b : Bool), xs = [.ref a, .ref C] ∧ H a = some (exv a (.ref D) (some dx)) ∧ H dx = some (.xd fs) ∧ XvC K D ∧ PySem.W.kitOne K (.ref D) (.ref C) = some b ∧ Q (.bl b) H
theorem call_isV {X : Cx} : CallR X (.builtin "isinstance") (rIsV X.K) := by
  intro pins s σ H xs us Q I r h
  obtain ⟨a, C, D, dx, fs, b, rfl, h1, h2, T, e, q⟩ := h
  obtain ⟨u1, u2, rfl, r1, r2⟩ := vals2 r
  cases (show u1 = Value.ref a from r1)
  cases (show u2 = Value.ref C from r2)
  obtain ⟨oe, od, mA, J, _, _, _⟩ := exv_at I h1 h2
  exact PySem.W.kia_one (PySem.W.kitx_exc T.cl T.xf.ga T.xf.gg T.xf.exC T.ha T.hn T.ht T.hm) I.kIn J e (fun z => nomatch z) fun tk => ⟨.bl b, H, I.tok tk, rfl, q⟩
/-- e.f, e such an error -/
def tXv (K : PySem.W.Frag) (f : Str) (te : TE) : TE := fun σ H Q => te σ H fun x H1 => ∃ (a D dx : Addr) (fs : List (Str × V)) (v : V), x = .ref a ∧ H1 a = some (exv a (.ref D) (some dx)) ∧ H1 dx = some (.xd fs) ∧ XvC K D ∧ PySem.W.findIn K (.ref D) f = some none ∧ fs.lookup f = some v ∧ Q v H1
theorem pe_xv {X : Cx} {e : Expr} {te : TE} {pos : Pos} {n : Str} (he : PE X e te) (hb : attributeBase e n X.env (eval e X.env) = eval e X.env) : PE X (.Attribute e n pos) (tXv X.K n te) := by
  refine ⟨fun pins s σ H Q I h => ?_⟩
  refine attr_of hb (thn (he.run pins s σ H _ I h) fun u s1 ⟨x, H1, I1, rx, a, D, dx, fs, v, ex, h1, h2, T, hno, l, q⟩ => ?_)
  subst ex
  obtain rfl : u = Value.ref a := rx
  obtain ⟨oe, od, mA, J, hns, ho, hr⟩ := exv_at I1 h1 h2
  obtain ⟨od', ho', hl⟩ := lookIn_ns hns
  rw [ho] at ho'
  cases ho'
  obtain ⟨u, hu, ru⟩ := RelO.some_of (v := v) (o := mA n) (by rw [← l]; exact hr n)
  exact HandSPX.exc_get I1.kIn J T.xf.ga T.xf.gg T.xf.exC (PySem.W.findObj_own T.xf.hdC hno rfl (by rw [hl, hu])) (handed_of ru) ⟨v, H1, I1.tok _, ru, q⟩
end PD
set_option Elab.async false
set_option linter.all false
set_option maxRecDepth 100000
set_option autoImplicit false
namespace PD
open PySem PySem.Spec L2

def wGot (K : PySem.W.Frag) (cs : List Value) (i j : Nat) (D : Ends) : WX := fun cls d σ H => PySem.W.exmAny K cls cs = some true ∧ ∀ a, H a = none → D.nx (((σ.set i (some (.ref a))).set j (some (.ref a))).set i none) (upd H a (exv a cls d))
theorem fly_push {B h : Heap} {l : List PySem.Env} {a : Addr} {Z : Obj → Prop} {o : Obj} (x : HandSPX.FlyingZ B l a Z h) : HandSPX.FlyingZ B l a Z (h.push o) := by
  obtain ⟨k1, k2, k3, oe, vs, T, oT, ts, h1, h2, h3, h4, h5, h6, h7, h8, h9⟩ := x
  exact ⟨fun b u e => Heap.get?_push_of_some _ (k1 b u e), k2, k3.of_keeps fun b u e _ => ⟨u, Heap.get?_push_of_some _ e, rfl⟩, oe, vs, T, oT, ts, Heap.get?_push_of_some _ h1, h2, h3, h4, h5, h6, Heap.get?_push_of_some _ h7, h8, h9⟩
section
variable {X : Cx}
/-- try: body / except (A, B, C) as n: y = n -/
theorem ps_catch {x1 x2 x3 n y : Str} {C1 C2 C3 : Addr} {i j kk : Nat} {body : List Stmt} {p1 p2 p3 p4 p5 p6 p7 pos pos' : Pos} {tb : WX → TS} (hs : X.stack = X.env :: X.outer) (hf : X.env.frame = some X.env.locals) (hex : X.ex = []) (hN : X.N.Nodup)
    (hi : X.N[i]? = some n) (hj : X.N[j]? = some y) (hln : X.env.kindOf n = some .local) (hly : X.env.kindOf y = some .local) (dn : (n == ("__debug__" : Str)) = false) (dn2 : (n == ("__classdict__" : Str)) = false)
    (g1 : Gl X x1) (m1 : X.mg x1 = some (.ref C1)) (d1 : (x1 == ("__debug__" : Str)) = false) (g2 : Gl X x2) (m2 : X.mg x2 = some (.ref C2)) (d2 : (x2 == ("__debug__" : Str)) = false) (g3 : Gl X x3) (m3 : X.mg x3 = some (.ref C3)) (d3 : (x3 == ("__debug__" : Str)) = false)
    (hb : ∀ (W : WX) (pn : List (Addr × Obj)) (xe : Value → Shared → Prop), Takes (X.tr pn xe) W → PassesOwn (model X.prog X.w) X.A X.env xe → PSs (X.tr pn xe) body (tb W)) :
    PS X (.Try body [.ExceptHandler (some (.Tuple [.Name x1 p1, .Name x2 p2, .Name x3 p3] kk p4)) (some n) [.Assign [.Name y p5] (.Name n p6) p7] pos'] [] [] pos)
      (fun D σ H => tb (wGot X.K [.ref C1, .ref C2, .ref C3] i j D) D σ H) := by
  refine ⟨fun pins s σ H D I h => ?_⟩
  have ok := I.ok
  have hfr : X.A.frames = some (X.env :: X.outer) := by rw [ok.frames, hs]
  have hloc : Loc X.env.scope n := .inl hln
  let hnd : ExceptHandler := .ExceptHandler (some (.Tuple [.Name x1 p1, .Name x2 p2, .Name x3 p3] kk p4)) (some n) [.Assign [.Name y p5] (.Name n p6) p7] pos'
  refine wpAny_Try_except ?_
  refine wpAny_mono ((hb (wGot X.K [.ref C1, .ref C2, .ref C3] i j D) (X.pn ++ pins) (fun e s1 => wpAny (model X.prog X.w) X.A (noteFrame e X.env) (fun _ s2 => wpAny (model X.prog X.w) X.A (setFlight e none) (fun _ s3 =>
    wpAny (model X.prog X.w) X.A (handleBy e X.env [hnd]) (SP X pins D) X.xe s3) X.xe s2) X.xe s1) (fun u s' got => ?_) PassesOwn.looking).run [] s σ H D (I.toTry _) h) (fun f s1 hsp => ?_) (fun e s1 he => he)
  · obtain ⟨a, B, sI, pins', σ', H', cls, d, rfl, J', nb, up, sky, na, os, ag, hx, hq⟩ := got
    have J : Inv X pins σ' H' sI := J'.ofTry ok
    have sky2 : Sky B (X.env :: X.outer) a (Zc cls d) X.env.locals s'.heap := by rw [← hs]; exact sky
    show wpAny (model X.prog X.w) X.A (noteFrame (.ref a) X.env) _ _ _
    refine Sky.land Zc.steady hfr hf sky2 fun h3 fl3 up3 => ?_
    have J3 : Inv X pins σ' H' { s' with heap := h3 } := J.landed nb fl3.1 (up.trans up3) os ag
    obtain ⟨oe3, vs3, he3, hz3, hd3⟩ := fl3.there
    have nfr : a ∉ frs (X.env :: X.outer) := fun hm => by
      obtain ⟨_, o', e', hnf⟩ := fl3.2.2.1.mem hm
      rw [he3] at e'; cases e'
      exact hnf _ hd3
    have nL : a ≠ X.env.locals := fun z => nfr (List.mem_filterMap.mpr ⟨X.env, List.mem_cons_self, by rw [hf, z]⟩)
    have nF : a ∉ X.fs := fun hm => by
      obtain ⟨e, he, q⟩ := List.mem_filterMap.mp hm
      exact nfr (List.mem_filterMap.mpr ⟨e, List.mem_cons_of_mem _ he, q⟩)
    have fresh : sI.heap.get? a = none := by
      cases q : sI.heap.get? a with
      | none => rfl
      | some o =>
        have z := nb a o q (by rw [hs]; exact nfr)
        rw [fl3.2.1] at z; cases z
    have n0 : X.s_0.heap.get? a = none := by
      cases q : X.s_0.heap.get? a with
      | none => rfl
      | some o =>
        obtain ⟨o', z⟩ := J.base.there a o q (by rw [hex]; simp)
        rw [fresh] at z; cases z
    have np : ∀ p ∈ X.pn ++ pins, p.1 ≠ a := fun p hp z => by
      have z1 := (J.pin p hp).1
      rw [z, fresh] at z1; cases z1
    have S3 := J3.suite he3 hd3 na nL nF
    refine wpAny_handleBy_cons (codeAny_handlers_test ?_) (by intro q; cases q)
    refine wpAny_Tuple_spliced ?_
    show wpAny _ _ (spliced ((false, eval (.Name x1 p1) X.env) :: (false, eval (.Name x2 p2) X.env) :: (false, eval (.Name x3 p3) X.env) :: [])) _ _ _
    refine Calls.spliced_cons (ld_glob (X := X.suite a ((a, oe3) :: (X.pn ++ pins))) S3 g1 m1 ?_ d1)
    refine Calls.spliced_cons (ld_glob (X := X.suite a ((a, oe3) :: (X.pn ++ pins))) S3 g2 m2 ?_ d2)
    refine Calls.spliced_cons (ld_glob (X := X.suite a ((a, oe3) :: (X.pn ++ pins))) S3 g3 m3 ?_ d3)
    refine Calls.spliced_nil ⟨by simp [sizeLine_eq], ?_⟩
    have flp := fly_push (o := { cls := .type "tuple", data := .seq [Value.ref C1, Value.ref C2, Value.ref C3].toArray }) fl3
    have kp : ∀ b o, h3.get? b = some o → (h3.push { cls := .type "tuple", data := .seq [Value.ref C1, Value.ref C2, Value.ref C3].toArray }).get? b = some o := fun b o e => Heap.get?_push_of_some _ e
    have LT : PySem.W.Looks (model X.prog X.w) (h3.push { cls := .type "tuple", data := .seq [Value.ref C1, Value.ref C2, Value.ref C3].toArray }) (typeOf (.ref a)) cls := fun A Q E s k q => wpAny_typeOf_ref (k _ _ (kp _ _ he3)) (by rw [hz3.1]; exact q)
    have LM := PySem.W.exm_tup3 (M := model X.prog X.w) (J3.kIn.keeps kp) LT (Heap.get?_push_size h3 rfl) hx
    refine LM.here ?_
    refine codeAny_handlers_suite_as ?_
    refine HandSPX.lands_againZ flp fun h4 fl4 up4 => ?_
    have J4 : Inv X pins σ' H' { s' with heap := h4 } := J.landed nb fl4.1 (((up.trans up3).trans (Heap.UpToSlots.of_keeps kp)).trans up4) os ag
    obtain ⟨oe4, vs4, he4, hz4, hd4⟩ := fl4.there
    have S4 := J4.suite he4 hd4 na nL nF
    refine store_ok (X := X.suite a ((a, oe4) :: (X.pn ++ pins))) (v := .ref a) S4 hN hi hloc rfl (fun s5 S5 => ?_) (.inr hln)
    have hil : i < σ'.length := by rw [S4.len]; exact (List.getElem?_eq_some_iff.mp hi).1
    have body := pss_one (ps_set (X := X.suite a ((a, oe4) :: (X.pn ++ pins))) (i := j) (pos := p7) (pos' := p5) hN hj (.inl hly) (pe_var (pos := p6) (i := i) hi (.inl hln) dn dn2) rfl (.inr hly))
    refine wpAny_mono (body.run [] s5 _ H' { nx := fun σ6 H6 => σ6 = (σ'.set i (some (.ref a))).set j (some (.ref a)) ∧ H6 = H', rt := fun _ _ => False, bk := fun _ _ => False, ct := fun _ _ => False } S5 ⟨.ref a, List.getElem?_set_self hil, rfl, rfl⟩) (fun f s6 hsp => ?_) (fun _ _ z => False.elim z)
    cases f with
    | next =>
      obtain ⟨σ6, H6, S6, rfl, rfl⟩ := hsp
      have J6 : Inv X ((a, oe4) :: pins) ((σ'.set i (some (.ref a))).set j (some (.ref a))) H6 s6 :=
        ⟨ok, S6.os, S6.bare, S6.base, S6.loc, S6.cell, S6.free, S6.freeC, fun p hp => S6.pin p (by
          have : p ∈ X.pn ∨ p = (a, oe4) ∨ p ∈ pins := by simpa using hp
          simp only [List.append_nil, List.mem_cons, List.mem_append]
          rcases this with z | z | z
          · exact .inr (.inl z)
          · exact .inl z
          · exact .inr (.inr z)), S6.hok, S6.len⟩
      exact gone_ok J6 hN hi hln fun s7 J7 => ⟨_, _, Inv.hold J7 n0 np hz4 hd4, hq a na⟩
    | brk => obtain ⟨_, _, _, z⟩ := hsp; exact z.elim
    | cont => obtain ⟨_, _, _, z⟩ := hsp; exact z.elim
    | ret u => obtain ⟨_, _, _, _, _, z⟩ := hsp; exact z.elim
  · cases f with
    | next =>
      obtain ⟨σ2, H2, J2, q⟩ := hsp
      exact wpAny_execs_nil ⟨σ2, H2, J2.ofTry ok, q⟩
    | brk =>
      obtain ⟨σ2, H2, J2, q⟩ := hsp
      exact ⟨σ2, H2, J2.ofTry ok, q⟩
    | cont =>
      obtain ⟨σ2, H2, J2, q⟩ := hsp
      exact ⟨σ2, H2, J2.ofTry ok, q⟩
    | ret u =>
      obtain ⟨v, σ2, H2, J2, r, q⟩ := hsp
      exact ⟨v, σ2, H2, J2.ofTry ok, r, q⟩
end
end PD
set_option Elab.async false
set_option linter.all false
set_option maxRecDepth 100000
set_option autoImplicit false
namespace PD
open PySem PySem.Spec L2

/-- where the telling of an error stands: the error at a, its class E, its one field; the list of what was found -/
structure Sd (S : Sig) (g : Gen) (H0i Hi : Hp) (a E dx l : Addr) (at_ : Str) (v : V) (d : D) (ws : List D) (σ : L2.St) (H0 H : Hp) : Prop where
  aft : Aft S g H0i Hi H0 H
  s1 : σ[1]? = some (some (.ref a))
  s2 : σ[2]? = some (some (.ref l))
  ha : H a = some (exv a (.ref E) (some dx))
  hx : H dx = some (.xd [(at_, v)])
  hv : Dr S.K H0 v d
  hl : ∃ xs, H l = some (.lst xs) ∧ DrAll S.K H0 xs ws
  nl : Fre Hi l
  n0 : H0 l = none
  few : ws.length < 100
def hitD (w : Str) (attr : Option Str) (d : D) : D := match attr with
  | some _ => .tuple [.str w, d]
  | none => .tuple [.str w]
/-- one question of the telling -/
inductive IsTst : Str → Str → Option Str → Stmt → Prop
  | fld {c w attr : Str} {k1 k2 : Nat} {p1 p2 p3 p4 p5 p6 p7 p8 p9 p10 p11 p12 p13 : Pos} : (p6.endLine == p11.line) = true →
      IsTst c w (some attr) (.If (.Call (.Name "isinstance" p1) [.Name "caught" p2, .Name c p3] [] p4) [.Expr (.Call (.Attribute (.Name "found" p5) "append" p6) [.Tuple [.Constant (.str w) k1 p7, .Attribute (.Name "caught" p8) attr p9] k2 p10] [] p11) p12] [] p13)
  | bare {c w : Str} {k1 k2 : Nat} {p1 p2 p3 p4 p5 p6 p7 p10 p11 p12 p13 : Pos} : (p6.endLine == p11.line) = true →
      IsTst c w none (.If (.Call (.Name "isinstance" p1) [.Name "caught" p2, .Name c p3] [] p4) [.Expr (.Call (.Attribute (.Name "found" p5) "append" p6) [.Tuple [.Constant (.str w) k1 p7] k2 p10] [] p11) p12] [] p13)
/-- the def's own names -/
structure SaidX (Z : Cx) (S : Sig) : Prop where
  hK : Z.K = S.K
  n1 : Z.N[1]? = some ("caught" : Str)
  n2 : Z.N[2]? = some ("found" : Str)
  v1 : Vis Z.env.scope "caught"
  v2 : Vis Z.env.scope "found"
  gi : Gl Z "isinstance"
  mi : Z.mg "isinstance" = none
def tTst (Z : Cx) (S : Sig) (C : Addr) (w : Str) (attr : Option Str) : TS := fun D σ H => ∃ g H0i Hi a E dx l at_ v d ws H0 b, Sd S g H0i Hi a E dx l at_ v d ws σ H0 H ∧ ws.length < 90 ∧ XvC S.K E ∧ PySem.W.kitOne S.K (.ref E) (.ref C) = some b ∧
  (b = true → (∀ x, attr = some x → x = at_ ∧ PySem.W.findIn S.K (.ref E) x = some none) ∧ ∀ H0' H', Sd S g H0i Hi a E dx l at_ v d (ws ++ [hitD w attr d]) σ H0' H' → D.nx σ H') ∧ (b = false → D.nx σ H)
section
variable {Z : Cx} {S : Sig}
theorem Sd.app {g : Gen} {H0i Hi : Hp} {a E dx l : Addr} {at_ : Str} {v : V} {d : D} {ws : List D} {σ : L2.St} {H0 H : Hp} (s : Sd S g H0i Hi a E dx l at_ v d ws σ H0 H) (hw : ws.length < 90) {vs : List V} {ds : List D} (hd : DrAll S.K H0 vs ds) {p : Addr} (hp : H p = none) :
    ∃ xs, upd H p (.tup vs) l = some (.lst xs) ∧ xs.length < sizeLine ∧ Sd S g H0i Hi a E dx l at_ v d (ws ++ [.tuple ds]) σ (upd H0 p (.tup vs)) (upd (upd H p (.tup vs)) l (.lst (xs ++ [.ref p]))) := by
  obtain ⟨xs, h1, h2⟩ := s.hl
  have np : ∀ {b u}, H b = some u → b ≠ p := fun {b u} e => ne_of_none e hp
  have a1 : Aft S g H0 H (upd H0 p (.tup vs)) (upd H p (.tup vs)) := Aft.new s.aft.sub s.aft.gen s.aft.tabs hp (fun ps z => by cases z)
  have n0 : upd H0 p (.tup vs) l = none := by rw [upd_ne (np h1)]; exact s.n0
  have e1 : upd H p (.tup vs) l = some (.lst xs) := by rw [upd_ne (np h1)]; exact h1
  have sm : Same H0 (upd H0 p (.tup vs)) := same_new (s.aft.sub.free hp)
  have nal : a ≠ l := fun z => by
    have q := s.ha
    rw [z, h1] at q
    unfold exv at q
    cases q
  have ndl : dx ≠ l := fun z => by have := s.hx; rw [z, h1] at this; cases this
  refine ⟨xs, e1, by rw [h2.length, sizeLine_eq]; omega, (s.aft.trans a1).wrt s.nl n0 e1, s.s1, s.s2, ?_, ?_, s.hv.same sm, ⟨_, upd_same, ?_⟩, s.nl, n0, by simp; omega⟩
  · rw [upd_ne nal, upd_ne (np s.ha)]; exact s.ha
  · rw [upd_ne ndl, upd_ne (np s.hx)]; exact s.hx
  · exact (h2.same sm).append (.cons (.tup (SqT.of upd_same) (hd.same sm)) .nil)
theorem tst_one (N : SaidX Z S) {c w : Str} {attr : Option Str} {C : Addr} {st : Stmt} (h : IsTst c w attr st) (gc : Gl Z c) (mc : Z.mg c = some (.ref C)) (dc : (c == ("__debug__" : Str)) = false) : PS Z st (tTst Z S C w attr) := by
  obtain ⟨hK, n1, n2, v1, v2, gi, mi⟩ := N
  have test : ∀ {p1 p2 p3 p4 : Pos}, PT Z (.Call (.Name "isinstance" p1) [.Name "caught" p2, .Name c p3] [] p4) _ := fun {p1 p2 p3 p4} =>
    pt_val (pe_callB call_isV gi mi (by decide +kernel) (pa_cons (pe_var (pos := p2) (i := 1) n1 v1 (by decide) (by decide)) (pa_cons (pe_glob (pos := p3) (v := .ref C) gc mc rfl dc) pa_nil)))
  cases h with
  | fld hline =>
    rename_i at2 k1 k2 p1 p2 p3 p4 p5 p6 p7 p8 p9 p10 p11 p12 p13
    refine PS.weak (ps_if test (pss_one (ps_expr (pos := p12) (pe_bm (cpos := p11) (apos := p6) PySem.F.plainAttrs_list PySem.F.slot_list_append PySem.F.type_list_append mt_append (pe_var (pos := p5) (i := 2) n2 v2 (by decide) (by decide))
      (pa_cons (pe_tup (x1 := k2) (pos := p10) (pa_cons (pe_str (x := w)) (pa_cons (pe_xv (n := at2) (pe_var (pos := p8) (i := 1) n1 v1 (by decide) (by decide)) rfl) pa_nil))) pa_nil) (hline := hline)) rfl)) pss_nil) fun D σ H q => ?_
    obtain ⟨g, H0i, Hi, a, E, dx, l, at_, v, d, ws, H0, b, s, hw, T, hk, ht, hf⟩ := q
    refine ⟨_, s.s1, a, C, E, dx, _, b, rfl, s.ha, s.hx, by rw [hK]; exact T, by rw [hK]; exact hk, b, rfl, ?_⟩
    cases b with
    | false => exact hf rfl
    | true =>
      obtain ⟨ha, ht⟩ := ht rfl
      obtain ⟨rfl, hno⟩ := ha at2 rfl
      obtain ⟨xs, h1, h2⟩ := s.hl
      refine ⟨_, s.s2, .inl ⟨rfl, _, SqL.of h1⟩, ?_⟩
      refine ⟨_, s.s1, a, E, dx, _, v, rfl, s.ha, s.hx, by rw [hK]; exact T, by rw [hK]; exact hno, by simp [List.lookup], ?_⟩
      refine ⟨by simp [sizeLine_eq], fun p hp => ?_⟩
      obtain ⟨xs', k1, k2, s'⟩ := s.app hw (.cons (.str w) (.cons s.hv .nil)) hp
      exact ⟨l, xs', .ref p, rfl, rfl, k1, k2, ht _ _ s'⟩
  | bare hline =>
    rename_i k1 k2 p1 p2 p3 p4 p5 p6 p7 p10 p11 p12 p13
    refine PS.weak (ps_if test (pss_one (ps_expr (pos := p12) (pe_bm (cpos := p11) (apos := p6) PySem.F.plainAttrs_list PySem.F.slot_list_append PySem.F.type_list_append mt_append (pe_var (pos := p5) (i := 2) n2 v2 (by decide) (by decide))
      (pa_cons (pe_tup (x1 := k2) (pos := p10) (pa_cons (pe_str (x := w)) pa_nil)) pa_nil) (hline := hline)) rfl)) pss_nil) fun D σ H q => ?_
    obtain ⟨g, H0i, Hi, a, E, dx, l, at_, v, d, ws, H0, b, s, hw, T, hk, ht, hf⟩ := q
    refine ⟨_, s.s1, a, C, E, dx, _, b, rfl, s.ha, s.hx, by rw [hK]; exact T, by rw [hK]; exact hk, b, rfl, ?_⟩
    cases b with
    | false => exact hf rfl
    | true =>
      obtain ⟨_, ht⟩ := ht rfl
      obtain ⟨xs, h1, h2⟩ := s.hl
      refine ⟨_, s.s2, .inl ⟨rfl, _, SqL.of h1⟩, ?_⟩
      refine ⟨by simp [sizeLine_eq], fun p hp => ?_⟩
      obtain ⟨xs', k1, k2, s'⟩ := s.app hw (.cons (.str w) .nil) hp
      exact ⟨l, xs', .ref p, rfl, rfl, k1, k2, ht _ _ s'⟩
end
end PD
set_option Elab.async false
set_option linter.all false
set_option maxRecDepth 100000
set_option autoImplicit false
namespace PD
open PySem PySem.Spec L2

/-! ### a lambda, called by the def that got it: guards told, what is raised wished for at that def's slots -/
section
variable {X : Cx} {pins : List (Addr × Obj)} {σ : L2.St} {H : Hp} {s : Shared}
/-- the callee's context, entered at s -/
abbrev inDef (X : Cx) (CXg : CXT) (Ng : List Str) (qg : Str) (sg : Scope) (g : Addr) (cdg : Value) (s : Shared) (H : Hp) (Eg : XK) (pn : List (Addr × Obj)) (xe : Value → Shared → Prop) : Cx :=
  (cxOf CXg X.prog X.w X.K X.mg X.base Ng qg sg g cdg X.A X.stack s H Eg).tr pn xe
theorem act_call {CXg : CXT} {Eg : XK} {Ng : List Str} {qg : Str} {sg : Scope} {g f c' : Addr} {cdg pm ctv : Value} {params : Arguments} {body : Expr} {scope : Scope} {k i : Nat} {a : Str} {pn : List (Addr × Obj)} {xe : Value → Shared → Prop} {W : WX} {tb : XK → TE} {p1 p2 : Pos}
    (I : Inv X pins σ H s) (L : LamX.LamS X.env.scope scope) (isF : s.heap.get? f = some (PySem.W.kla_obj "<lambda>" (X.env.qual ++ "<lambda>") params body scope (cloFrom X.env.cells scope.names []) pm c' ctv)) (nf : H f = none) (nst : f ∉ frs X.stack)
    (none_ : bindArgs (PySem.W.kla_fn "<lambda>" (X.env.qual ++ "<lambda>") params body scope (cloFrom X.env.cells scope.names []) pm (.ref c') ctv) ⟨[], []⟩ = pure [])
    (tk : Takes (inDef X CXg Ng qg sg g cdg s H Eg pn xe) W) (room : Room (k + 1) (X.A.deeper (PyProof.Rows.envOfC qg sg s.heap.objs.size g cdg))) (hgd : X.A.guards = some [])
    (inner : ∀ (A : Around) (outer : List PySem.Env) (s : Shared) (H : Hp) (E : XK), A.guards = some [] → Room k (A.deeper (LamX.lamEnv X scope s.heap.objs.size f c')) → PE (LamX.lamCx X A outer s H E scope f c') body (tb E))
    (hN : Ng[i]? = some a) (hv : Vis sg a) (d1 : (a == ("__debug__" : Str)) = false) (d2 : (a == ("__classdict__" : Str)) = false) :
    PE (inDef X CXg Ng qg sg g cdg s H Eg pn xe) (.Call (.Name a p1) [] [] p2)
      (fun σZ HZ Q => σZ[i]? = some (some (.ref f)) ∧ HZ c' = some (LamX.CodeO c' (X.env.qual ++ "<lambda>")) ∧ tb (WE W σZ) σ HZ Q) := by
  refine ⟨fun pinsZ sZ σZ HZ Q IZ hq => ?_⟩
  obtain ⟨q1, q2, q3⟩ := hq
  have look := (pe_var (X := inDef X CXg Ng qg sg g cdg s H Eg pn xe) (pos := p1) (i := i) hN hv d1 d2).run pinsZ sZ σZ HZ (fun v H1 => v = .ref f ∧ H1 = HZ) IZ ⟨.ref f, q1, rfl, rfl⟩
  refine wpAny_Call_Name_kw (thn look fun u s1 ⟨v, H1, J, r, ev, eH⟩ => ?_)
  subst ev eH
  obtain rfl : u = Value.ref f := r
  have stays : Un (frs X.stack) [] H H1 s.heap s1.heap := J.base
  have isF1 := stays.keep f _ isF nf nst (fun z => nomatch (show f ∈ ([] : List Addr) from z))
  refine PySem.W.callWith_F0 ⟨_, _, _, _, isF1⟩ ?_
  obtain ⟨⟨oc, fs, t, code1, code2, code3⟩, _, _⟩ := J.hok c' _ q2
  let A2 : Around := X.A.deeper (PyProof.Rows.envOfC qg sg s.heap.objs.size g cdg)
  have ran : codeAny (model X.prog X.w) A2 (.call (.ref f) ⟨[], []⟩) (CR (L2.CX X.prog X.w) (PyProof.Rows.envOfC qg sg s.heap.objs.size g cdg :: X.stack) X.prog X.w H1 s1 Q (WE W σZ)) s1 := by
    refine PySem.W.kla_callFunE room.depth isF1 rfl L.co L.gen rfl ⟨c', oc, fs, t, rfl, code1, code2, code3⟩ ?_
    rw [none_]
    refine wpAny_pure (wpAny_newFunctionEnv (fun y hy => (L.own y hy).2) (fun y hy => absurd hy (by simp)) (fun h1 hns hsb => ⟨J.nolimit.fresh _ hsb, ?_⟩) L.kind)
    show codeAny _ _ (.expr body (LamX.lamEnv X scope s1.heap.objs.size f c')) _ _
    have kp : ∀ b o, s1.heap.get? b = some o → h1.get? b = some o := fun b o e => hsb.extBut b o (Nat.ne_of_lt (Heap.lt_size e)) (Heap.get?_push_of_some _ e)
    have st : Inv (LamX.lamCx X A2 (PyProof.Rows.envOfC qg sg s.heap.objs.size g cdg :: X.stack) s1 H1 (WE W σZ) scope f c') [] σ H1 { s1 with heap := h1, toks := s1.toks + ([] : List (Str × Value)).length } :=
      LamX.lam_start2 I L J.env0 room.hd stays hns kp
    refine PySem.W.kla_codeExpr (wpAny_mono ((inner A2 _ s1 H1 _ hgd (room.deeper _)).run [] _ _ H1 Q st q3) (fun v s2 hs => ?_) fun e s2 hs => hs)
    obtain ⟨v', H2, J2, rv, q⟩ := hs
    exact ⟨v', H2, J2.os, J2.bare, J2.base, J2.hok, rv, q⟩
  refine wpAny_call (codeAny_mono ran fun r s2 hs => ?_)
  match r, hs with
  | .error e, hs => exact passAt tk σZ pinsZ H1 s1 e s2 J hs
  | .ok (.ret u), hs => exact J.after hs
  | .ok .next, hs => exact False.elim hs
  | .ok .brk, hs => exact False.elim hs
  | .ok .cont, hs => exact False.elim hs
/-- x(lambda: body): TT tells what x makes of it -/
theorem lam_call {T : List (Addr × Str)} {x a : Str} {g c P : Addr} {k : Nat} {pg : Arguments} {bg : List Stmt} {sg : Scope} {dV kV doc pm cdv ct oc : Value} {an od : Option Addr} {osl : Array (Option Value)} {Ng : List Str}
    {params : Arguments} {body : Expr} {scope : Scope} {t : XK → TE} {p lpos pos : Pos} {TT : (XK → Hp → VK → Prop) → Hp → VK → Prop} (hg : Gl X x) (hm : X.mg x = some (.ref g)) (kp : PySem.W.keepIn X.K (.ref g) = true)
    (lk : X.K.lookup g = some ⟨oc, od, .func (PySem.W.fnOf x x pg bg sg dV kV doc pm an cdv ct), osl⟩) (cg : PySem.W.codeIn X.K cdv x = true) (bd : L2.Binds X.K (PySem.W.fnOf x x pg bg sg dV kV doc pm an cdv ct) [a] []) (Sg : FnScope Ng [a] sg) (n0 : Ng[0]? = some a) (va : Vis sg a)
    (TB : LamX.TabB X.base X.mg c P) (code : X.env.code = .ref c) (inT : (P, X.env.qual ++ "<lambda>") ∈ T) (only : ∀ p ∈ T, p.1 = P → p.2 = X.env.qual ++ "<lambda>") (room : Room (k + 2) X.A) (hgd : X.A.guards = some []) (L : LamX.LamS X.env.scope scope) (nodef : defaultsOf params X.env = ([], []))
    (none_ : ∀ (q : Str) (cl : List (Str × Addr)) (pm cv ctv : Value), bindArgs (PySem.W.kla_fn "<lambda>" q params body scope cl pm cv ctv) ⟨[], []⟩ = pure [])
    (inner : ∀ (A : Around) (outer : List PySem.Env) (s : Shared) (H : Hp) (E : XK) (f c' : Addr), A.guards = some [] → Room k (A.deeper (LamX.lamEnv X scope s.heap.objs.size f c')) → PE (LamX.lamCx X A outer s H E scope f c') body (t E))
    (d0 : (x == ("__debug__" : Str)) = false) (d1 : (a == ("__debug__" : Str)) = false) (d2 : (a == ("__classdict__" : Str)) = false)
    (callee : ∀ (f c' : Addr) (s : Shared) (H : Hp) (Q : VK) (tl : XK → Hp → VK → Prop),
      (∀ (W : WX) (pn : List (Addr × Obj)) (xe : Value → Shared → Prop) (p1 p2 : Pos), Takes (inDef X CX0 Ng x sg g cdv s H E0 pn xe) W →
        PE (inDef X CX0 Ng x sg g cdv s H E0 pn xe) (.Call (.Name a p1) [] [] p2) (fun σZ HZ Q => σZ[0]? = some (some (.ref f)) ∧ HZ c' = some (LamX.CodeO c' (X.env.qual ++ "<lambda>")) ∧ tl (WE W σZ) HZ Q)) →
      H c' = some (LamX.CodeO c' (X.env.qual ++ "<lambda>")) → TT tl H Q →
      ∃ t, PSs (cxOf CX0 X.prog X.w X.K X.mg X.base Ng x sg g cdv X.A X.stack s H E0).nox bg t ∧ t { nx := fun _ H' => Q .non H', rt := Q } (L2.start Ng [.ref f]) H) :
    PE X (.Call (.Name x p) [.Lambda params body scope lpos] [] pos) (fun σ H Q => LamX.Tabs T H ∧ ∀ H1, LamX.ExtN H H1 → LamX.Tabs T H1 → TT (fun E H' Q' => t E σ H' Q') H1 Q) := by
  refine ⟨fun pins s σ H Q I hq => ?_⟩
  obtain ⟨tabs, hq⟩ := hq
  refine wpAny_Call_Name_kw (ld_glob I hg hm ?_ d0)
  refine PySem.W.callWith_K (h₀ := X.base) I.ok.mod.kin kp ?_ (by rfl) (by rfl)
  show wpAny _ _ (spliced ((false, eval (.Lambda params body scope lpos) X.env) :: [])) _ _ s
  refine Calls.spliced_cons (LamX.lam_make2 I TB code inT only tabs nodef (L.has I.ok) fun f c' pm' ctv H1 s1 J ext tabs1 isF nf nst isC => ?_)
  refine Calls.spliced_nil ⟨J.kIn, ?_⟩
  have ran : codeAny (model X.prog X.w) X.A (.call (.ref g) ⟨[.ref f], []⟩) (CR CX0 X.stack X.prog X.w H1 s1 Q E0) s1 := by
    refine LamX.run_ofS (N := Ng) (ps := [a]) (us := [.ref f]) (vs := [.ref f]) lk cg Sg room J.env0 (bd s1 [.ref f] J.kIn rfl) (.cons rfl .nil) rfl fun room' => ?_
    obtain ⟨t2, k1, k2⟩ := callee f c' s1 H1 Q (fun E H' Q' => t E σ H' Q') (fun W pn xe p1 p2 tk => act_call (i := 0) J L isF nf nst (none_ _ _ _ _ _) tk room' hgd (fun A outer s H E gd r2 => inner A outer s H E f c' gd r2) n0 va d1 d2) isC (hq H1 ext tabs1)
    exact ⟨t2, k1.nox, k2⟩
  refine wpAny_call (codeAny_mono ran fun r s2 hs => ?_)
  match r, hs with
  | .error e, hs => exact (show False from hs).elim
  | .ok (.ret u), hs => exact J.after hs
  | .ok .next, hs => exact False.elim hs
  | .ok .brk, hs => exact False.elim hs
  | .ok .cont, hs => exact False.elim hs
end
end PD
set_option Elab.async false
set_option linter.all false
set_option maxRecDepth 100000
set_option autoImplicit false
namespace PD
open PySem PySem.Spec L2

/-- a lambda's making: tables may change, all else stays -/
theorem Aft.lam {S : Sig} {g : Gen} {H0 H H1 : Hp} (sub : Same H0 H) (nt : ∀ a ps, H0 a ≠ some (.tbl ps)) (gen : GenAt S.gm g H0 H) (e : LamX.ExtN H H1) (t : LamX.Tabs S.T H1) : Aft S g H0 H H0 H1 := by
  refine ⟨⟨Same.refl _, fun a o h _ n => e a o h n, fun a h => ?_, fun a h => .inl h, fun _ _ h => h⟩, fun b u h => e b u (sub b u h) (fun ps z => nt b ps (by rw [← z]; exact h)), fun p hp => ?_, t⟩
  · cases q : H a with
    | none => exact .inl q
    | some o =>
      by_cases z : ∃ ps, o = .tbl ps
      · obtain ⟨ps, rfl⟩ := z
        exact .inr ⟨ps, q⟩
      · exact absurd rfl (h.ne (e a o q (fun ps y => z ⟨ps, y⟩)) (fun ps y => z ⟨ps, y⟩))
  · obtain ⟨gl, h1, h2⟩ := gen p hp
    exact ⟨gl, e p _ h1 (fun ps z => by cases z), h2⟩
abbrev Tst : Type := Str × Str × Option Str
inductive Tsts : List Tst → Stmt → List Stmt → Prop
  | nil {R : Stmt} : Tsts [] R [R]
  | cons {c w : Str} {attr : Option Str} {st R : Stmt} {ts : List Tst} {rest : List Stmt} : IsTst c w attr st → Tsts ts R rest → Tsts ((c, w, attr) :: ts) R (st :: rest)
/-- the telling's text -/
inductive SaidBody : List Tst → List Stmt → Prop
  | mk {ts : List Tst} {rest : List Stmt} {k1 k2 k3 k4 k5 k6 k7 k8 k9 k10 k11 : Nat} {px py pt a1 a2 a3 a4 b1 b2 b3 b4 b5 b6 b7 b8 b9 b10 b11 b12 c1 c2 c3 c4 c5 c6 c7 e1 e2 e3 e4 e5 e6 e7 e8 e9 e10 e11 e12 : Pos} :
    (py.line == px.line) = true →
    Tsts ts (.Return (some (.IfExp (.Compare (.Call (.Name "len" e1) [.Name "found" e2] [] e3) [.Eq] [.Constant (.int 1) k8 e4] e5) (.Subscript (.Name "found" e6) (.Constant (.int 0) k9 e7) e8) (.Tuple [.Constant (.str "odd") k10 e9] k11 e10) e11)) e12) rest →
    SaidBody ts (.Assign [.Tuple [.Name "caught" px, .Name "found" py] k1 pt] (.Tuple [.Constant .none k2 a1, .List [] a2] k3 a3) a4 ::
      .Try [.Expr (.Call (.Name "call" b1) [] [] b2) b3] [.ExceptHandler (some (.Tuple [.Name "JobError" b4, .Name "MissError" b5, .Name "TooMany" b6] k4 b7)) (some "e") [.Assign [.Name "caught" b8] (.Name "e" b9) b10] b11] [] [] b12 ::
      .If (.Compare (.Name "caught" c1) [.Is] [.Constant .none k5 c2] c3) [.Return (some (.Tuple [.Constant (.str "said") k6 c4] k7 c5)) c6] [] c7 :: rest)
/-- what the module says of the telling's def, and of the classes it names -/
structure SaidDef (K : PySem.W.Frag) (mg : Str → Option Value) (S : Sig) (excs : List Str) (ts : List Tst) (wd : Str → Option (Option Str)) : Prop where
  df : ∃ (g : Addr) (pg : Arguments) (bg : List Stmt) (sg : Scope) (dV kV doc pm cdv ct oc : Value) (an od : Option Addr) (osl : Array (Option Value)), mg "_law_said" = some (.ref g) ∧ PySem.W.keepIn K (.ref g) = true ∧
    K.lookup g = some ⟨oc, od, .func (PySem.W.fnOf "_law_said" "_law_said" pg bg sg dV kV doc pm an cdv ct), osl⟩ ∧ PySem.W.codeIn K cdv "_law_said" = true ∧ L2.Binds K (PySem.W.fnOf "_law_said" "_law_said" pg bg sg dV kV doc pm an cdv ct) ["call"] [] ∧
    FnScope ["call", "caught", "found", "e"] ["call"] sg ∧ SaidBody ts bg ∧ (["call", "caught", "found", "e"] : List Str).all (lk sg) = true ∧ (("isinstance" : Str) :: "len" :: "JobError" :: "MissError" :: "TooMany" :: ts.map (·.1)).all (fun x => glB sg x && !dbg x) = true
  cls : ∀ x ∈ ("JobError" : Str) :: "MissError" :: "TooMany" :: ts.map (·.1), mg x = some (.ref (S.cl x))
  xv : ∀ c ∈ excs, XvC K (S.cl c)
  caught : ∀ c ∈ excs, PySem.W.exmAny K (.ref (S.cl c)) [.ref (S.cl "JobError"), .ref (S.cl "MissError"), .ref (S.cl "TooMany")] = some true
  kit : ∀ c ∈ excs, ∀ q ∈ ts, PySem.W.kitOne K (.ref (S.cl c)) (.ref (S.cl q.1)) = some (decide (c = q.1))
  attr : ∀ c ∈ excs, ∀ q ∈ ts, c = q.1 → ∀ x, q.2.2 = some x → x = S.at_ c ∧ PySem.W.findIn K (.ref (S.cl c)) x = some none
  one : ∀ c ∈ excs, ∀ d, ∃ r, saidOf wd c d = some r ∧ (ts.filter fun q => decide (c = q.1)).map (fun q => hitD q.2.1 q.2.2 d) = [r]
  few : ts.length < 50
section
variable {X : Cx}
theorem pss_ex {ι : Type} {ss : List Stmt} {t : ι → TS} (h : ∀ i, PSs X ss (t i)) : PSs X ss (fun D σ H => ∃ i, t i D σ H) := ⟨fun pins s σ H D I q => by
  obtain ⟨i, q⟩ := q
  exact (h i).run pins s σ H D I q⟩
/-- a locked thing that was not locked at the entry may be written again -/
theorem pss_unlock {ss : List Stmt} {t : TS} (h : PSs X ss t) : PSs X ss (fun D σ H => ∃ d od u, H d = some (.frz od u) ∧ (∀ o' u', X.H_0 d ≠ some (.frz o' u')) ∧ t D σ (upd H d u)) := ⟨fun pins s σ H D I q => by
  obtain ⟨d, od, u, h1, h2, q⟩ := q
  exact h.run pins s σ _ D (I.unlock h1 h2) q⟩
end
section
variable {Z : Cx} {S : Sig}
def tTs (Z : Cx) (S : Sig) (ts : List Tst) (tR : List D → TS) : TS := fun D σ H => ∃ g H0i Hi a E dx l at_ v d ws H0, ∃ hit : Str → Bool, Sd S g H0i Hi a E dx l at_ v d ws σ H0 H ∧ ws.length + ts.length < 90 ∧ XvC S.K E ∧
  (∀ q ∈ ts, PySem.W.kitOne S.K (.ref E) (.ref (S.cl q.1)) = some (hit q.1) ∧ (hit q.1 = true → ∀ x, q.2.2 = some x → x = at_ ∧ PySem.W.findIn S.K (.ref E) x = some none)) ∧
  ∀ H0' H', Sd S g H0i Hi a E dx l at_ v d (ws ++ (ts.filter fun q => hit q.1).map fun q => hitD q.2.1 q.2.2 d) σ H0' H' → tR (ws ++ (ts.filter fun q => hit q.1).map fun q => hitD q.2.1 q.2.2 d) D σ H'
theorem tsts_run (N : SaidX Z S) {R : Stmt} {tR : List D → TS} (hR : ∀ ws, PS Z R (tR ws)) : ∀ {ts : List Tst} {rest : List Stmt}, Tsts ts R rest → (∀ q ∈ ts, Gl Z q.1 ∧ Z.mg q.1 = some (.ref (S.cl q.1)) ∧ (q.1 == ("__debug__" : Str)) = false) → PSs Z rest (tTs Z S ts tR)
  | _, _, .nil, _ => by
    refine PSs.weak (pss_ex fun ws => pss_one (hR ws)) fun D σ H q => ?_
    obtain ⟨g, H0i, Hi, a, E, dx, l, at_, v, d, ws, H0, hit, s, _, _, _, q⟩ := q
    have q := q H0 H (by simpa using s)
    exact ⟨_, q⟩
  | _, _, .cons (c := c) (w := w) (attr := attr) (ts := ts) h1 h2, hm => by
    obtain ⟨m1, m2, m3⟩ := hm _ List.mem_cons_self
    have ih := tsts_run N hR h2 fun q hq => hm q (List.mem_cons_of_mem _ hq)
    refine PSs.weak (pss_cons (tst_one N h1 m1 m2 m3) ih) fun D σ H q => ?_
    obtain ⟨g, H0i, Hi, a, E, dx, l, at_, v, d, ws, H0, hit, s, few, T, facts, q⟩ := q
    have few : ws.length + (ts.length + 1) < 90 := by simpa using few
    obtain ⟨f1, f2⟩ := facts (c, w, attr) List.mem_cons_self
    refine ⟨g, H0i, Hi, a, E, dx, l, at_, v, d, ws, H0, hit c, s, by omega, T, f1, fun hb => ⟨fun x hx => f2 hb x hx, fun H0' H' s' => ?_⟩, fun hb => ?_⟩
    · refine ⟨g, H0i, Hi, a, E, dx, l, at_, v, d, _, H0', hit, s', by simp; omega, T, fun q hq => facts q (List.mem_cons_of_mem _ hq), fun H2 H2' s2 => ?_⟩
      have e : ws ++ ((((c, w, attr) : Tst) :: ts).filter fun q => hit q.1).map (fun q => hitD q.2.1 q.2.2 d) = (ws ++ [hitD w attr d]) ++ (ts.filter fun q => hit q.1).map fun q => hitD q.2.1 q.2.2 d := by
        rw [List.filter_cons_of_pos (by exact hb)]; simp
      have z := q H2 H2' (by rw [e]; exact s2)
      rw [e] at z
      exact z
    · refine ⟨g, H0i, Hi, a, E, dx, l, at_, v, d, ws, H0, hit, s, by omega, T, fun q hq => facts q (List.mem_cons_of_mem _ hq), fun H2 H2' s2 => ?_⟩
      have e : ((((c, w, attr) : Tst) :: ts).filter fun q => hit q.1) = ts.filter fun q => hit q.1 := List.filter_cons_of_neg (by simpa using hb)
      have z := q H2 H2' (by rw [e]; exact s2)
      rw [e] at z
      exact z
end
end PD
set_option Elab.async false
set_option linter.all false
set_option maxRecDepth 100000
set_option autoImplicit false
namespace PD
open PySem PySem.Spec L2

/-- what the telling asks of the lambda's call, a list l being its own -/
def TTs (S : Sig) (excs : List Str) (wd : Str → Option (Option Str)) : (XK → Hp → VK → Prop) → Hp → VK → Prop := fun tl H Q => ∀ l, H l = none → ∀ (Ex : XK) (Qn : VK),
  (∀ (c : Str) (dx : Addr) (v : V) (d r : D) (g : Gen) (H0i Hi H0' H' : Hp), c ∈ excs → H' l = some (.lst []) → H0' l = none → Fre Hi l → Aft S g H0i Hi H0' H' → H' dx = some (.xd [(S.at_ c, v)]) → Dr S.K H0' v d → saidOf wd c d = some r →
    (∀ w H2 H2', Aft S g H0i Hi H2 H2' → Dr S.K H2 w r → Q w H2') → Ex (.ref (S.cl c)) (some dx) H') →
  (∀ (v : V) (g : Gen) (H0i Hi H0' H' : Hp), Aft S g H0i Hi H0' H' → (∀ w H2 H2', Aft S g H0i Hi H2 H2' → Dr S.K H2 w (.tuple [.str "said"]) → Q w H2') → Qn v H') → tl Ex (upd H l (.lst [])) Qn
section
variable {X : Cx} {S : Sig} {excs : List Str} {ts : List Tst} {wd : Str → Option (Option Str)}
theorem gl_b {Y : Cx} {sc : Scope} {x : Str} (e : Y.env.scope = sc) (h : (glB sc x && !dbg x) = true) : Gl Y x ∧ (x == ("__debug__" : Str)) = false := by
  rw [Bool.and_eq_true] at h
  exact ⟨gl_of e h.1, (dbg_of h.2).1⟩
theorem said_callee {g : Addr} {bg : List Stmt} {sg : Scope} {cdv : Value} (hK : X.K = S.K) (SD : SaidDef X.K X.mg S excs ts wd) (hb : SaidBody ts bg) (Sc : FnScope ["call", "caught", "found", "e"] ["call"] sg)
    (loc : (["call", "caught", "found", "e"] : List Str).all (lk sg) = true) (glb : (("isinstance" : Str) :: "len" :: "JobError" :: "MissError" :: "TooMany" :: ts.map (·.1)).all (fun x => glB sg x && !dbg x) = true) (blt : ∀ x ∈ bltNames, X.mg x = none)
    {f c' : Addr} {s : Shared} {H : Hp} {Q : VK} {tl : XK → Hp → VK → Prop} {q : Str}
    (act : ∀ (W : WX) (pn : List (Addr × Obj)) (xe : Value → Shared → Prop) (p1 p2 : Pos), Takes (inDef X CX0 ["call", "caught", "found", "e"] "_law_said" sg g cdv s H E0 pn xe) W →
        PE (inDef X CX0 ["call", "caught", "found", "e"] "_law_said" sg g cdv s H E0 pn xe) (.Call (.Name "call" p1) [] [] p2) (fun σZ HZ Q => σZ[0]? = some (some (.ref f)) ∧ HZ c' = some (LamX.CodeO c' q) ∧ tl (WE W σZ) HZ Q))
    (isC : H c' = some (LamX.CodeO c' q)) (tt : TTs S excs wd tl H Q) :
    ∃ t, PSs (cxOf CX0 X.prog X.w X.K X.mg X.base ["call", "caught", "found", "e"] "_law_said" sg g cdv X.A X.stack s H E0).nox bg t ∧ t { nx := fun _ H' => Q .non H', rt := Q } (L2.start ["call", "caught", "found", "e"] [.ref f]) H := by
  let Z : Cx := (cxOf CX0 X.prog X.w X.K X.mg X.base ["call", "caught", "found", "e"] "_law_said" sg g cdv X.A X.stack s H E0).nox
  have lkx : ∀ x ∈ (["call", "caught", "found", "e"] : List Str), sg.names.lookup x = some .local := fun x hx => lk_of (List.all_eq_true.mp loc x hx)
  have l1 : Z.env.scope.names.lookup ("caught" : Str) = some .local := lkx _ (by simp)
  have l2 : Z.env.scope.names.lookup ("found" : Str) = some .local := lkx _ (by simp)
  have l3 : Z.env.scope.names.lookup ("e" : Str) = some .local := lkx _ (by simp)
  have v1 : Vis Z.env.scope "caught" := .inl l1
  have v2 : Vis Z.env.scope "found" := .inl l2
  have glx : ∀ x ∈ (("isinstance" : Str) :: "len" :: "JobError" :: "MissError" :: "TooMany" :: ts.map (·.1)), Gl Z x ∧ (x == ("__debug__" : Str)) = false := fun x hx => gl_b (Y := Z) rfl (List.all_eq_true.mp glb x hx)
  have cls := SD.cls
  have hN : SaidX Z S := ⟨hK, rfl, rfl, v1, v2, (glx _ (by simp)).1, blt _ (by simp [bltNames])⟩
  cases hb with
  | mk hline hts =>
    have facts : ∀ q ∈ ts, Gl Z q.1 ∧ Z.mg q.1 = some (.ref (S.cl q.1)) ∧ (q.1 == ("__debug__" : Str)) = false := fun q hq => by
      have m1 : q.1 ∈ ts.map (·.1) := List.mem_map.mpr ⟨q, hq, rfl⟩
      have g1 := glx q.1 (by simp only [List.mem_cons]; exact .inr (.inr (.inr (.inr (.inr m1)))))
      exact ⟨g1.1, cls q.1 (by simp only [List.mem_cons]; exact .inr (.inr (.inr m1))), g1.2⟩
    have tail := fun h => tsts_run hN (tR := fun _ => tRet (tIf (tTest (tOp rEq (tCB (fun xs H Q => ∃ x n, xs = [x] ∧ LenV Z.K x H n ∧ Q (.int n) H) (tCons (tVar 2) tNil)) (tC (.int 1)))) (tOp (rIx Z.K) (tVar 2) (tC (.int 0))) (tTup (tCons (tC (.str "odd")) tNil)))) h hts facts
    have ret := tail fun _ => ps_ret (pe_ifExp (pt_cmpR op_eq (pe_callB call_len (glx "len" (by simp)).1 (blt "len" (by simp [bltNames])) boot_len (pa_cons (pe_var (i := 2) rfl v2 (by decide) (by decide)) pa_nil)) pe_int (nomark _))
          (pe_ix ix_seq (pe_var (i := 2) rfl v2 (by decide) (by decide)) pe_int (fun _ _ => rfl)) (pe_tup (pa_cons pe_str pa_nil)))
    refine ⟨_, pss_cons (ps_par (X := Z) (i := 1) (j := 2) rfl Sc.nd rfl rfl (by decide) l1 l2 (pa_cons pe_non (pa_cons (pe_lst pa_nil) pa_nil)) (sw2 Sc.kind l1 l2 hline (by decide) rfl rfl rfl))
      (pss_cons (ps_catch (X := Z) (i := 3) (j := 1) rfl rfl rfl Sc.nd rfl rfl l3 l1 (by decide) (by decide) (glx "JobError" (by simp)).1 (cls _ (by simp)) (by decide) (glx "MissError" (by simp)).1 (cls _ (by simp)) (by decide) (glx "TooMany" (by simp)).1 (cls _ (by simp)) (by decide)
          (fun W pn xe tk _ => pss_one (ps_expr (act W pn xe _ _ tk) rfl)))
        (pss_cons (ps_if (pt_cmpR op_isN (pe_var (i := 1) rfl v1 (by decide) (by decide)) pe_non (nomark _)) (pss_one (ps_ret (pe_tup (pa_cons pe_str pa_nil)))) pss_nil) ret)), ?_⟩
    refine ⟨by simp [sizeLine_eq], fun l hl => ?_⟩
    refine ⟨_, _, rfl, ?_⟩
    refine ⟨rfl, by rw [upd_ne (ne_of_none isC hl)]; exact isC, ?_⟩
    refine tt l hl _ _ (fun c dx v d r g H0i Hi H0' H' hc h1 h2 h3 h4 h5 h6 h7 h8 => ?_) (fun v g H0i Hi H0' H' h1 h2 => ?_)
    · refine ⟨SD.caught c hc, fun a na => ?_⟩
      have a1 : Aft S g H0i Hi H0' (upd H' a (exv a (.ref (S.cl c)) (some dx))) := h4.trans (Aft.grow h4.sub h4.gen h4.tabs na)
      have nal : l ≠ a := ne_of_none h1 na
      have nad : dx ≠ a := ne_of_none h5 na
      have s1 : Sd S g H0i Hi a (S.cl c) dx l (S.at_ c) v d [] [some (.ref f), some (.ref a), some (.ref l), none] H0' (upd H' a (exv a (.ref (S.cl c)) (some dx))) :=
        ⟨a1, rfl, rfl, upd_same, by rw [upd_ne nad]; exact h5, h6, ⟨[], by rw [upd_ne nal]; exact h1, .nil⟩, h3, h2, by simp⟩
      refine ⟨.ref a, rfl, rfl, false, by simp, iteF ?_⟩
      obtain ⟨r', e1, e2⟩ := SD.one c hc d
      rw [h7] at e1
      cases e1
      refine ⟨g, H0i, Hi, a, S.cl c, dx, l, S.at_ c, v, d, [], H0', fun x => decide (c = x), s1, by have := SD.few; simp; omega, by rw [← hK]; exact SD.xv c hc, fun q hq => ⟨by rw [← hK]; exact SD.kit c hc q hq, fun hd x hx => ?_⟩, fun H2 H2' s2 => ?_⟩
      · rw [← hK]
        exact SD.attr c hc q hq (of_decide_eq_true hd) x hx
      · rw [List.nil_append, e2] at s2
        obtain ⟨xs, k1, k2⟩ := s2.hl
        cases k2 with
        | cons k3 k4 =>
          cases k4
          rename_i w
          refine ⟨_, s2.s2, _, 1, rfl, .inl ⟨[w], SqL.of k1, rfl⟩, rfl, true, by simp, iteT ?_⟩
          exact ⟨_, s2.s2, .inl ⟨l, [w], 0, w, rfl, rfl, SqL.of k1, rfl, h8 w H2 H2' s2.aft k3⟩⟩
    · refine ⟨.non, rfl, rfl, true, by simp, iteT ?_⟩
      refine ⟨by simp [sizeLine_eq], fun p hp => ?_⟩
      exact h2 (.ref p) _ _ (h1.trans (Aft.new h1.sub h1.gen h1.tabs hp (fun ps z => by cases z))) (.tup (SqT.of upd_same) (.cons (.str _) .nil))
end
end PD
set_option Elab.async false
set_option linter.all false
set_option maxRecDepth 100000
set_option autoImplicit false
namespace PD
open PySem PySem.Spec L2

/-! ### a lambda with one parameter that has a number of its own, called with nothing -/
def oneP (y : Str) (p : Pos) (i : Int) (k : Nat) (p2 : Pos) : Arguments := ⟨[], [⟨y, none, p⟩], none, [], [], none, [.Constant (.int i) k p2]⟩
structure LamD (N : List Str) (sc scope : Scope) (y : Str) : Prop where
  kd : scope.kind = .function
  noco : scope.isCoroutine = false
  nogn : scope.isGenerator = false
  nms : ∀ z ∈ scope.names, z.2 ≠ .cell ∧ (z.2 = .local → z.1 = y)
  out : ∀ z ∈ scope.names, z.2 = .free → sc.names.lookup z.1 = some .cell ∨ sc.names.lookup z.1 = some .free
  loc : scope.names.lookup y = some .local
  far : y ∉ N
theorem LamD.got {X : Cx} {scope : Scope} {y : Str} (L : LamD X.N X.env.scope scope y) (ok : X.Ok) : ∀ z ∈ scope.names, z.2 = .free → ∃ c, X.env.cells.lookup z.1 = some c :=
  fun z hz e => (L.out z hz e).elim (fun q => ok.has _ (.inl q)) (fun q => ok.has _ (.inr q))
abbrev fnD (q : Str) (y : Str) (p : Pos) (i : Int) (k : Nat) (p2 : Pos) (body : Expr) (scope : Scope) (cl : List (Str × Addr)) (t : Addr) (doc pm : Value) (c' : Addr) (ctv : Value) : Obj :=
  PySem.W.kdv_obj "<lambda>" q (oneP y p i k p2) (.expr body) scope cl (.ref t) doc pm c' ctv
section
variable {X : Cx} {pins : List (Addr × Obj)} {σ : L2.St} {H : Hp} {s : Shared}
/-- its making -/
theorem lamD_make {T : List (Addr × Str)} {c P : Addr} {y : Str} {p p2 pos : Pos} {i : Int} {k : Nat} {body : Expr} {scope : Scope} {Q : Value → Shared → Prop} (I : Inv X pins σ H s) (TB : LamX.TabB X.base X.mg c P) (code : X.env.code = .ref c)
    (inT : (P, X.env.qual ++ "<lambda>") ∈ T) (only : ∀ q ∈ T, q.1 = P → q.2 = X.env.qual ++ "<lambda>") (tabs : LamX.Tabs T H) (got : ∀ z ∈ scope.names, z.2 = .free → ∃ c, X.env.cells.lookup z.1 = some c)
    (fin : ∀ (f t c' : Addr) (doc pm ctv u : Value) (H1 : Hp) (s' : Shared), Inv X pins σ H1 s' → LamX.ExtN H H1 → LamX.Tabs T H1 → s'.heap.get? f = some (fnD (X.env.qual ++ "<lambda>") y p i k p2 body scope (cloFrom X.env.cells scope.names []) t doc pm c' ctv) →
      s'.heap.get? t = some (PySem.W.kdv_tup [u]) → H1 f = none → H1 t = none → f ∉ frs X.stack → t ∉ frs X.stack → H1 c' = some (LamX.CodeO c' (X.env.qual ++ "<lambda>")) → Q (.ref f) s') :
    wpAny (model X.prog X.w) X.A (eval (.Lambda (oneP y p i k p2) body scope pos) X.env) Q X.xe s := by
  refine PySem.W.kdv_lam rfl rfl (PySem.W.kdv_all1 (thn ((pe_int (X := X) (i := i)).run pins s σ H (fun v H' => v = .int i ∧ H' = H) I ⟨rfl, rfl⟩) fun u s1 ⟨v, H', I1, r, ev, eH⟩ => PySem.W.kdv_all0 ?_))
  subst eH
  have away : ∀ b, s1.heap.objs.size ≤ b → b ∉ frs X.stack := fun b hb z => (List.mem_cons.mp (I1.stkSub _ z)).elim (fun e => by
    have lt := I1.lt
    rw [← e] at lt
    exact absurd (Nat.lt_of_lt_of_le lt hb) (Nat.lt_irrefl _)) fun e => I1.nofs hb e
  rw [makeFunction_eq]
  simp only [List.zip_nil_right, List.filterMap_nil, List.isEmpty_nil, List.isEmpty_cons, if_true, pure_bind, Bool.false_eq_true, if_false]
  refine wpAny_bind (wpAny_newTextTuple ?_)
  -- the tuple of the one number stands behind all
  have I2 : Inv X pins σ H' { s1 with heap := s1.heap.push (PySem.W.kdv_tup [u]) } := I1.kept (t' := s1.toks) fun b o e => Heap.get?_push_of_some _ e
  have tt : (s1.heap.push (PySem.W.kdv_tup [u])).get? s1.heap.objs.size = some (PySem.W.kdv_tup [u]) := Heap.get?_push_size _ rfl
  have szp : (s1.heap.push (PySem.W.kdv_tup [u])).objs.size = s1.heap.objs.size + 1 := by rw [Heap.size_push]
  obtain ⟨ps, hP, tri, among⟩ := tabs _ inT
  have hP2 := I2.hok P _ hP
  have bP := TB.bm.keeps I2.bk
  have nt : H' s1.heap.objs.size = none := I1.hok.fresh (Nat.le_refl _)
  cases hc : codeAmong pos ps.toList with
  | some cv =>
    obtain ⟨c', rfl, hco⟩ := among pos cv hc
    refine PySem.W.kdv_makeTailHit (c := c) (P := P) (mg := X.mg) (ps := ps) (closure_ok got) I2.ok.glob (I2.mod.glob.keeps I2.bk) code (TB.code.keeps I2.bk) hP2 tri hc bP fun ctv doc h' tk kp sz => ?_
    have sz' : s1.heap.objs.size + 1 ≤ h'.objs.size := by rw [← szp]; exact sz
    have I3 : Inv X pins σ H' { s1 with heap := h'.push (fnD (X.env.qual ++ "<lambda>") y p i k p2 body scope (cloFrom X.env.cells scope.names []) s1.heap.objs.size doc ((X.mg "__name__").getD .none) c' ctv), toks := tk } := I2.kept (t' := tk) fun b o e => Heap.get?_push_of_some _ (kp b o e)
    exact fin _ _ c' doc _ ctv u H' _ I3 (LamX.ExtN.refl H') tabs (Heap.get?_push_size _ rfl) (Heap.get?_push_of_some _ (kp _ _ tt)) (I1.hok.fresh (by omega)) nt (away _ (by omega)) (away _ (Nat.le_refl _)) hco
  | none =>
    refine PySem.W.kdv_makeTail (c := c) (P := P) (mg := X.mg) (ps := ps) (closure_ok got) I2.ok.glob (I2.mod.glob.keeps I2.bk) code (TB.code.keeps I2.bk) hP2 tri hc TB.gP bP fun c' ctv doc h' tk kp ge lt hrec tab' => ?_
    have ge' : s1.heap.objs.size + 1 ≤ c' := by rw [← szp]; exact ge
    obtain ⟨c2, oc, vs, tk2, e2, o1, o2, o3⟩ := hrec
    cases e2
    have nC : H' c' = none := I1.hok.fresh (by omega)
    have P_lt : P < s1.heap.objs.size + 1 := by rw [← szp]; exact Heap.lt_size hP2
    let o3f : Obj := fnD (X.env.qual ++ "<lambda>") y p i k p2 body scope (cloFrom X.env.cells scope.names []) s1.heap.objs.size doc ((X.mg "__name__").getD .none) c' ctv
    have I3 := LamX.inv_table (t' := tk) (q := X.env.qual ++ "<lambda>") (more := #[rawInt pos.line, rawInt pos.col, .ref c']) (h' := h'.push o3f) I2 hP (fun b o hb e => Heap.get?_push_of_some _ (kp b o hb e)) (Heap.get?_push_of_some _ tab') ge ⟨oc, vs, tk2, Heap.get?_push_of_some _ o1, o2, o3⟩
    have ex : LamX.ExtN H' (upd (upd H' P (.tbl (ps ++ #[rawInt pos.line, rawInt pos.col, .ref c']))) c' (LamX.CodeO c' (X.env.qual ++ "<lambda>"))) := by
      intro b o e n
      have b1 : b ≠ c' := ne_of_none e nC
      have b2 : b ≠ P := by
        intro z
        rw [z, hP] at e
        exact n ps (Option.some.inj e).symm
      rw [upd_ne b1, upd_ne b2, e]
    have pc : P ≠ c' := ne_of_none hP nC
    have lst : (ps ++ #[rawInt pos.line, rawInt pos.col, .ref c']).toList = ps.toList ++ [rawInt pos.line, rawInt pos.col, .ref c'] := by simp
    have tabs3 : LamX.Tabs T (upd (upd H' P (.tbl (ps ++ #[rawInt pos.line, rawInt pos.col, .ref c']))) c' (LamX.CodeO c' (X.env.qual ++ "<lambda>"))) := by
      intro q hq
      by_cases at_ : q.1 = P
      · rw [only q hq at_, at_]
        refine ⟨_, (upd_ne pc).trans upd_same, ?_, ?_⟩
        · rw [lst]; exact PySem.TriplesOk_snoc _ _ _ _ tri
        · intro pos' cv' hcv
          rw [lst] at hcv
          exact (LamX.among_app _ tri hcv).elim (fun old => let ⟨c0, z1, z2⟩ := among pos' cv' old; ⟨c0, z1, ex _ _ z2 LamX.codeO_ne⟩) fun new => ⟨c', new, upd_same⟩
      · obtain ⟨ps1, w1, w2, w3⟩ := tabs q hq
        refine ⟨ps1, ?_, w2, fun pos' cv' hcv => let ⟨c0, z1, z2⟩ := w3 pos' cv' hcv; ⟨c0, z1, ex _ _ z2 LamX.codeO_ne⟩⟩
        rw [upd_ne (ne_of_none w1 nC), upd_ne at_, w1]
    have still : ∀ b, b ≠ c' → b ≠ P → H' b = none → upd (upd H' P (.tbl (ps ++ #[rawInt pos.line, rawInt pos.col, .ref c']))) c' (LamX.CodeO c' (X.env.qual ++ "<lambda>")) b = none := fun b z1 z2 z3 => by rw [upd_ne z1, upd_ne z2, z3]
    have tP : s1.heap.objs.size ≠ P := fun z => by rw [z, hP] at nt; cases nt
    exact fin _ _ c' doc _ ctv u _ _ I3 ex tabs3 (Heap.get?_push_size _ rfl) (Heap.get?_push_of_some _ (kp _ _ tP tt)) (still h'.objs.size (Nat.ne_of_gt lt) (Nat.ne_of_gt (Nat.lt_of_lt_of_le P_lt (Nat.le_trans ge' (Nat.le_of_lt lt)))) (I1.hok.fresh (Nat.le_trans (Nat.le_of_succ_le ge') (Nat.le_of_lt lt)))) (still _ (Nat.ne_of_lt ge') tP nt) (away _ (Nat.le_trans (Nat.le_of_succ_le ge') (Nat.le_of_lt lt))) (away _ (Nat.le_refl _)) upd_same
end
end PD
set_option Elab.async false
set_option linter.all false
set_option maxRecDepth 100000
set_option autoImplicit false
namespace PD
open PySem PySem.Spec L2

section
variable {X : Cx} {pins : List (Addr × Obj)} {σ : L2.St} {H HZ : Hp} {s s1 : Shared}
/-- its frame, entered: its own name is none of the caller's -/
theorem lamD_start {A : Around} {outer : List PySem.Env} {E : XK} {scope : Scope} {y : Str} {f c' : Addr} {h1 : Heap} {tk : Nat} {m : Str → Option Value} (I : Inv X pins σ H s) (L : LamD X.N X.env.scope scope y) (e0 : Env0 X.prog X.w X.K X.mg X.base A outer s1 HZ) (quiet : A.handled = none)
    (un : Un (frs X.stack) [] H HZ s.heap s1.heap) (frame : h1.Ns s1.heap.objs.size m) (kept : ∀ b o, s1.heap.get? b = some o → h1.get? b = some o) :
    Inv (LamX.lamCx X A outer s1 HZ E scope f c') [] σ HZ { s1 with heap := h1, toks := tk } := by
  have fre := L.got I.ok
  -- a captured cell is the maker's
  have same : ∀ x c, (cloFrom X.env.cells scope.names []).lookup x = some c → X.env.cells.lookup x = some c := by
    intro x c e
    rcases cloFrom_mem (PySem.mem_of_lookup e) with z | ⟨z1, z2⟩
    · exact nomatch z
    · obtain ⟨c1, q⟩ := fre _ z1 rfl
      have q : X.env.cells.lookup x = some c1 := q
      have e3 : c = c1 := by rw [z2, q] <;> rfl
      exact e3 ▸ q
  have there : ∀ x, scope.names.lookup x = some .free → ∃ c, (cloFrom X.env.cells scope.names []).lookup x = some c := fun x q =>
    mem_lookup (cloFrom_has (cells := X.env.cells) (acc := []) (PySem.mem_of_lookup q))
  have cells : ∀ {c : Addr} {v : Option Value}, H c = none → s.heap.IsCell c v → h1.IsCell c v := by
    intro c v n q
    obtain ⟨o, q1, q2⟩ := q
    obtain ⟨sl, q3⟩ := un.any q1 n (by simp)
    exact ⟨_, kept _ _ q3, q2⟩
  have ex0 : ∀ b : Addr, b ∉ (LamX.lamCx X A outer s1 HZ E scope f c').ex := fun b z => nomatch (show b ∈ ([] : List Addr) from z)
  have oks : (LamX.lamCx X A outer s1 HZ E scope f c').Ok :=
    { mod := e0.mod, kind := L.kd, glob := rfl, blt := rfl, above := Nat.le_refl _
      inj := fun x z c q1 q2 => I.ok.inj x z c (same _ _ q1) (same _ _ q2)
      has := fun x q => by
        have q : scope.names.lookup x = some .cell ∨ scope.names.lookup x = some .free := q
        exact q.elim (fun q => absurd rfl (L.nms _ (PySem.mem_of_lookup q)).1) fun q => there x q
      cab := fun x c z _ => by
        have z : false = true := z
        exact nomatch z
      hd := fun _ => quiet, frames := Around.frames_deeper e0.frames, stk := .inr ⟨rfl, rfl⟩
      exf := fun b z => absurd z (ex0 b), bs := e0.bs, bsz := e0.bsz, noex := fun b _ _ => ex0 b, exfs := fun b z => absurd z (ex0 b), funs := e0.funs, frf := e0.frf }
  refine { ok := oks, os := rfl, bare := e0.bare, base := Un.kept kept, loc := ⟨m, frame, ?_⟩, cell := ?_, free := e0.hok.fresh (Nat.le_refl _), freeC := ?_, pin := (fun q hq => absurd (show q ∈ ([] : List (Addr × Obj)) ++ [] from hq) (by simp)), hok := e0.hok.kept kept, len := I.len }
  · intro i x v q1 q2 q3
    have q3 : Vis scope x := q3
    have mem : x ∈ X.N := List.mem_of_getElem? q1
    rcases q3 with z | z | z
    · exact absurd ((L.nms _ (PySem.mem_of_lookup z)).2 rfl ▸ mem) L.far
    · exact absurd rfl (L.nms _ (PySem.mem_of_lookup z)).1
    · obtain ⟨m0, _, all⟩ := I.loc
      have up := L.out _ (PySem.mem_of_lookup z) rfl
      obtain ⟨u, r, lk⟩ := all i x v q1 q2 (up.elim (fun q => .inr (.inl q)) fun q => .inr (.inr q))
      obtain ⟨c, hc⟩ := there x z
      refine ⟨u, r, .inr ⟨.inr z, c, hc, ?_⟩⟩
      rcases lk with ⟨own, _⟩ | ⟨_, c3, e3, cl⟩
      · have own : X.env.scope.names.lookup x = some .local := own
        have up : X.env.scope.names.lookup x = some .cell ∨ X.env.scope.names.lookup x = some .free := up
        rcases up with up | up <;> (rw [up] at own; cases own)
      · have e4 : c3 = c := Option.some.inj (e3.symm.trans (same _ _ hc))
        subst e4
        exact cells (I.freeC x _ e3) cl
  · intro x c e
    obtain ⟨v, q⟩ := I.cell x c (same _ _ e)
    exact ⟨v, cells (I.freeC x c (same _ _ e)) q⟩
  · intro x c e
    obtain ⟨v, o, q, _⟩ := I.cell x c (same _ _ e)
    exact un.free c o q (I.freeC x c (same _ _ e)) (by simp)
theorem lamD_binds {q y : Str} (hy : y = "x" ∨ y = "y") {p p2 : Pos} {i : Int} {k : Nat} {body : Expr} {scope : Scope} {cl : List (Str × Addr)} {t c' : Addr} {doc pm ctv u : Value} (ht : s.heap.get? t = some (PySem.W.kdv_tup [u])) :
    BindsTo s (PySem.W.kdv_fn "<lambda>" q (oneP y p i k p2) (.expr body) scope cl (.ref t) doc pm (.ref c') ctv) ⟨[], []⟩ [(y, u)] :=
  by rcases hy with rfl | rfl <;> exact BindsTo.of_defaults (T := t) rfl ht rfl rfl rfl
end

section
variable {X : Cx} {pins : List (Addr × Obj)} {σ : L2.St} {H : Hp} {s : Shared}
theorem actD {y : Str} (hy : y = "x" ∨ y = "y") {CXg : CXT} {Eg : XK} {Ng : List Str} {qg : Str} {sg : Scope} {g f t c' : Addr} {cdg pm ctv doc u0 : Value} {p p3 : Pos} {i0 : Int} {k0 : Nat} {body : Expr} {scope : Scope} {k i : Nat} {a : Str} {pn : List (Addr × Obj)} {xe : Value → Shared → Prop} {W : WX} {tb : XK → TE} {p1 p2 : Pos}
    (I : Inv X pins σ H s) (L : LamD X.N X.env.scope scope y) (isF : s.heap.get? f = some (fnD (X.env.qual ++ "<lambda>") y p i0 k0 p3 body scope (cloFrom X.env.cells scope.names []) t doc pm c' ctv)) (isT : s.heap.get? t = some (PySem.W.kdv_tup [u0])) (nf : H f = none) (nt : H t = none) (nst : f ∉ frs X.stack) (nst2 : t ∉ frs X.stack)
    (tk : Takes (inDef X CXg Ng qg sg g cdg s H Eg pn xe) W) (room : Room (k + 1) (X.A.deeper (PyProof.Rows.envOfC qg sg s.heap.objs.size g cdg))) (hgd : X.A.guards = some [])
    (inner : ∀ (A : Around) (outer : List PySem.Env) (s : Shared) (H : Hp) (E : XK), A.guards = some [] → Room k (A.deeper (LamX.lamEnv X scope s.heap.objs.size f c')) → PE (LamX.lamCx X A outer s H E scope f c') body (tb E))
    (hN : Ng[i]? = some a) (hv : Vis sg a) (d1 : (a == ("__debug__" : Str)) = false) (d2 : (a == ("__classdict__" : Str)) = false) :
    PE (inDef X CXg Ng qg sg g cdg s H Eg pn xe) (.Call (.Name a p1) [] [] p2)
      (fun σZ HZ Q => σZ[i]? = some (some (.ref f)) ∧ HZ c' = some (LamX.CodeO c' (X.env.qual ++ "<lambda>")) ∧ tb (WE W σZ) σ HZ Q) := by
  refine ⟨fun pinsZ sZ σZ HZ Q IZ hq => ?_⟩
  obtain ⟨q1, q2, q3⟩ := hq
  have look := (pe_var (X := inDef X CXg Ng qg sg g cdg s H Eg pn xe) (pos := p1) (i := i) hN hv d1 d2).run pinsZ sZ σZ HZ (fun v H1 => v = .ref f ∧ H1 = HZ) IZ ⟨.ref f, q1, rfl, rfl⟩
  refine wpAny_Call_Name_kw (thn look fun u s1 ⟨v, H1, J, r, ev, eH⟩ => ?_)
  subst ev eH
  obtain rfl : u = Value.ref f := r
  have stays : Un (frs X.stack) [] H H1 s.heap s1.heap := J.base
  have isF1 := stays.keep f _ isF nf nst (fun z => nomatch (show f ∈ ([] : List Addr) from z))
  have isT1 := stays.keep t _ isT nt nst2 (fun z => nomatch (show t ∈ ([] : List Addr) from z))
  refine PySem.W.callWith_F0 ⟨_, _, _, _, isF1⟩ ?_
  obtain ⟨⟨oc, fs, tq, code1, code2, code3⟩, _, _⟩ := J.hok c' _ q2
  let A2 : Around := X.A.deeper (PyProof.Rows.envOfC qg sg s.heap.objs.size g cdg)
  have ran : codeAny (model X.prog X.w) A2 (.call (.ref f) ⟨[], []⟩) (CR (L2.CX X.prog X.w) (PyProof.Rows.envOfC qg sg s.heap.objs.size g cdg :: X.stack) X.prog X.w H1 s1 Q (WE W σZ)) s1 := by
    refine PySem.W.kla_callFunE room.depth isF1 rfl L.noco L.nogn rfl ⟨c', oc, fs, tq, rfl, code1, code2, code3⟩ (lamD_binds hy isT1 _ _ _ _ ?_)
    refine wpAny_newFunctionEnv (fun z hz => (L.nms z hz).1) (fun z hz => by
      obtain rfl : z = (y, u0) := by simpa using hz
      exact L.loc) (fun h1 hns hsb => ⟨J.nolimit.fresh _ hsb, ?_⟩) L.kd
    show codeAny _ _ (.expr body (LamX.lamEnv X scope s1.heap.objs.size f c')) _ _
    have kp : ∀ b o, s1.heap.get? b = some o → h1.get? b = some o := fun b o e => hsb.extBut b o (Nat.ne_of_lt (Heap.lt_size e)) (Heap.get?_push_of_some _ e)
    have st := lamD_start (E := WE W σZ) (A := A2) (outer := PyProof.Rows.envOfC qg sg s.heap.objs.size g cdg :: X.stack) (f := f) (c' := c') (tk := s1.toks + ([(y, u0)] : List (Str × Value)).length) I L J.env0 room.hd stays hns kp
    refine PySem.W.kla_codeExpr (wpAny_mono ((inner A2 _ s1 H1 _ hgd (room.deeper _)).run [] _ _ H1 Q st q3) (fun v s2 hs => ?_) fun e s2 hs => hs)
    obtain ⟨v', H2, J2, rv, q⟩ := hs
    exact ⟨v', H2, J2.os, J2.bare, J2.base, J2.hok, rv, q⟩
  refine wpAny_call (codeAny_mono ran fun r s2 hs => ?_)
  match r, hs with
  | .error e, hs => exact passAt tk σZ pinsZ H1 s1 e s2 J hs
  | .ok (.ret u), hs => exact J.after hs
  | .ok .next, hs => exact False.elim hs
  | .ok .brk, hs => exact False.elim hs
  | .ok .cont, hs => exact False.elim hs
/-- x(lambda y=0: body): TT tells what x makes of it -/
theorem lamD_call {y : Str} (hy : y = "x" ∨ y = "y") {T : List (Addr × Str)} {x a : Str} {g c P : Addr} {k : Nat} {pg : Arguments} {bg : List Stmt} {sg : Scope} {dV kV doc pm cdv ct oc : Value} {an od : Option Addr} {osl : Array (Option Value)} {Ng : List Str}
    {pa pb : Pos} {i0 : Int} {k0 : Nat} {body : Expr} {scope : Scope} {t : XK → TE} {p lpos pos : Pos} {TT : (XK → Hp → VK → Prop) → Hp → VK → Prop} (hg : Gl X x) (hm : X.mg x = some (.ref g)) (kp : PySem.W.keepIn X.K (.ref g) = true)
    (lk : X.K.lookup g = some ⟨oc, od, .func (PySem.W.fnOf x x pg bg sg dV kV doc pm an cdv ct), osl⟩) (cg : PySem.W.codeIn X.K cdv x = true) (bd : L2.Binds X.K (PySem.W.fnOf x x pg bg sg dV kV doc pm an cdv ct) [a] []) (Sg : FnScope Ng [a] sg) (n0 : Ng[0]? = some a) (va : Vis sg a)
    (TB : LamX.TabB X.base X.mg c P) (code : X.env.code = .ref c) (inT : (P, X.env.qual ++ "<lambda>") ∈ T) (only : ∀ p ∈ T, p.1 = P → p.2 = X.env.qual ++ "<lambda>") (room : Room (k + 2) X.A) (hgd : X.A.guards = some []) (L : LamD X.N X.env.scope scope y)
    (inner : ∀ (A : Around) (outer : List PySem.Env) (s : Shared) (H : Hp) (E : XK) (f c' : Addr), A.guards = some [] → Room k (A.deeper (LamX.lamEnv X scope s.heap.objs.size f c')) → PE (LamX.lamCx X A outer s H E scope f c') body (t E))
    (d0 : (x == ("__debug__" : Str)) = false) (d1 : (a == ("__debug__" : Str)) = false) (d2 : (a == ("__classdict__" : Str)) = false)
    (callee : ∀ (f c' : Addr) (s : Shared) (H : Hp) (Q : VK) (tl : XK → Hp → VK → Prop),
      (∀ (W : WX) (pn : List (Addr × Obj)) (xe : Value → Shared → Prop) (p1 p2 : Pos), Takes (inDef X CX0 Ng x sg g cdv s H E0 pn xe) W →
        PE (inDef X CX0 Ng x sg g cdv s H E0 pn xe) (.Call (.Name a p1) [] [] p2) (fun σZ HZ Q => σZ[0]? = some (some (.ref f)) ∧ HZ c' = some (LamX.CodeO c' (X.env.qual ++ "<lambda>")) ∧ tl (WE W σZ) HZ Q)) →
      H c' = some (LamX.CodeO c' (X.env.qual ++ "<lambda>")) → TT tl H Q →
      ∃ t, PSs (cxOf CX0 X.prog X.w X.K X.mg X.base Ng x sg g cdv X.A X.stack s H E0).nox bg t ∧ t { nx := fun _ H' => Q .non H', rt := Q } (L2.start Ng [.ref f]) H) :
    PE X (.Call (.Name x p) [.Lambda (oneP y pa i0 k0 pb) body scope lpos] [] pos) (fun σ H Q => LamX.Tabs T H ∧ ∀ H1, LamX.ExtN H H1 → LamX.Tabs T H1 → TT (fun E H' Q' => t E σ H' Q') H1 Q) := by
  refine ⟨fun pins s σ H Q I hq => ?_⟩
  obtain ⟨tabs, hq⟩ := hq
  refine wpAny_Call_Name_kw (ld_glob I hg hm ?_ d0)
  refine PySem.W.callWith_K (h₀ := X.base) I.ok.mod.kin kp ?_ (by rfl) (by rfl)
  show wpAny _ _ (spliced ((false, eval (.Lambda (oneP y pa i0 k0 pb) body scope lpos) X.env) :: [])) _ _ s
  refine Calls.spliced_cons (lamD_make I TB code inT only tabs (L.got I.ok) fun f tt c' doc' pm' ctv u0 H1 s1 J ext tabs1 isF isT nf nt nst nst2 isC => ?_)
  refine Calls.spliced_nil ⟨J.kIn, ?_⟩
  have ran : codeAny (model X.prog X.w) X.A (.call (.ref g) ⟨[.ref f], []⟩) (CR CX0 X.stack X.prog X.w H1 s1 Q E0) s1 := by
    refine LamX.run_ofS (N := Ng) (ps := [a]) (us := [.ref f]) (vs := [.ref f]) lk cg Sg room J.env0 (bd s1 [.ref f] J.kIn rfl) (.cons rfl .nil) rfl fun room' => ?_
    obtain ⟨t2, k1, k2⟩ := callee f c' s1 H1 Q (fun E H' Q' => t E σ H' Q') (fun W pn xe p1 p2 tk => actD hy (i := 0) J L isF isT nf nt nst nst2 tk room' hgd (fun A outer s H E gd r2 => inner A outer s H E f c' gd r2) n0 va d1 d2) isC (hq H1 ext tabs1)
    exact ⟨t2, k1.nox, k2⟩
  refine wpAny_call (codeAny_mono ran fun r s2 hs => ?_)
  match r, hs with
  | .error e, hs => exact (show False from hs).elim
  | .ok (.ret u), hs => exact J.after hs
  | .ok .next, hs => exact False.elim hs
  | .ok .brk, hs => exact False.elim hs
  | .ok .cont, hs => exact False.elim hs
end
end PD
set_option Elab.async false
set_option linter.all false
set_option maxRecDepth 100000
set_option autoImplicit false
namespace PD
open PySem PySem.Spec L2

/-! ### the telling's text -/
inductive HdB : List Tst → List ExceptHandler → Prop
  | nil : HdB [] []
  | fld {c w attr : Str} {k1 k2 : Nat} {np p1 p2 p3 p4 p5 p6 : Pos} {ts : List Tst} {hds : List ExceptHandler} : HdB ts hds →
      HdB ((c, w, some attr) :: ts) (.ExceptHandler (some (.Name c np)) (some "e") [.Return (some (.Tuple [.Constant (.str w) k1 p1, .Attribute (.Name "e" p2) attr p3] k2 p4)) p5] p6 :: hds)
  | bare {c w : Str} {k1 k2 : Nat} {np p1 p4 p5 p6 : Pos} {ts : List Tst} {hds : List ExceptHandler} : HdB ts hds →
      HdB ((c, w, none) :: ts) (.ExceptHandler (some (.Name c np)) none [.Return (some (.Tuple [.Constant (.str w) k1 p1] k2 p4)) p5] p6 :: hds)
inductive SaidB : Bool → List Tst → List Stmt → Prop
  | wrap {ts : List Tst} {h₀ : ExceptHandler} {hds : List ExceptHandler} {p0 b1 b2 b3 pos e1 e2 e3 : Pos} : HdB ts (h₀ :: hds) →
      SaidB true ts [.Try [.Assign [.Name "found" p0] (.Call (.Name "call" b1) [] [] b2) b3] (h₀ :: hds) [] [] pos, .Return (some (.List [.Name "found" e1] e2)) e3]
  | plain {ts : List Tst} {h₀ : ExceptHandler} {hds : List ExceptHandler} {k1 k2 : Nat} {b1 b2 b3 pos e1 e2 e3 : Pos} : HdB ts (h₀ :: hds) →
      SaidB false ts [.Try [.Expr (.Call (.Name "call" b1) [] [] b2) b3] (h₀ :: hds) [] [] pos, .Return (some (.Tuple [.Constant (.str "said") k1 e1] k2 e2)) e3]
def nmB : Bool → List Str
  | true => ["call", "found", "e"]
  | false => ["call", "e"]
def ieB : Bool → Nat
  | true => 2
  | false => 1
def clB (S : Sig) (ie : Nat) (q : Tst) : Clause := (.ref (S.cl q.1), q.2.2.isSome, fun a cls d => match q.2.2 with
  | some at_ => tRet (tTup (tCons (tC (.str q.2.1)) (tCons (tXf a cls d (S.cl q.1) at_ (tVar ie)) tNil)))
  | none => tRet (tTup (tCons (tC (.str q.2.1)) tNil)))
/-- what the module says of the telling's def, and of the classes it names -/
structure SaidDefB (K : PySem.W.Frag) (mg : Str → Option Value) (S : Sig) (excs : List Str) (ts : List Tst) (wd : Str → Option (Option Str)) : Prop where
  df : ∃ (wr : Bool) (g : Addr) (pg : Arguments) (bg : List Stmt) (sg : Scope) (dV kV doc pm cdv ct oc : Value) (an od : Option Addr) (osl : Array (Option Value)), mg "_law_said" = some (.ref g) ∧ PySem.W.keepIn K (.ref g) = true ∧
    K.lookup g = some ⟨oc, od, .func (PySem.W.fnOf "_law_said" "_law_said" pg bg sg dV kV doc pm an cdv ct), osl⟩ ∧ PySem.W.codeIn K cdv "_law_said" = true ∧ L2.Binds K (PySem.W.fnOf "_law_said" "_law_said" pg bg sg dV kV doc pm an cdv ct) ["call"] [] ∧
    FnScope (nmB wr) ["call"] sg ∧ SaidB wr ts bg ∧ (nmB wr).all (lk sg) = true ∧ (ts.map (·.1)).all (fun x => glB sg x && !dbg x) = true ∧ (wd "" = if wr then some none else none)
  cls : ∀ x ∈ ts.map (·.1), mg x = some (.ref (S.cl x))
  xf : ∀ q ∈ ts, XfC K (S.cl q.1)
  kit : ∀ c ∈ excs, ∀ q ∈ ts, PySem.W.exmOne K (.ref (S.cl c)) (.ref (S.cl q.1)) = some (decide (c = q.1))
  attr : ∀ q ∈ ts, ∀ x, q.2.2 = some x → x = S.at_ q.1 ∧ PySem.W.findIn K (.ref (S.cl q.1)) x = some none
  one : ∀ c ∈ excs, ∀ d r, saidOf wd c d = some r → ∃ q, ts.find? (fun q => decide (c = q.1)) = some q ∧ hitD q.2.1 q.2.2 d = r
/-- what the telling asks of the lambda's call -/
def TTsB (S : Sig) (excs : List Str) (wd : Str → Option (Option Str)) : (XK → Hp → VK → Prop) → Hp → VK → Prop := fun tl H Q => ∀ (Ex : XK) (Qn : VK),
  (∀ (c : Str) (dx : Addr) (v : V) (d r : D) (g : Gen) (H0i Hi H0' H' : Hp), c ∈ excs → Aft S g H0i Hi H0' H' → H' dx = some (.xd [(S.at_ c, v)]) → Dr S.K H0' v d → saidOf wd c d = some r →
    (∀ w H2 H2', Aft S g H0i Hi H2 H2' → Dr S.K H2 w r → Q w H2') → Ex (.ref (S.cl c)) (some dx) H') →
  (∀ (v : V) (x : Vl) (r : D) (g : Gen) (H0i Hi H0' H' : Hp), Aft S g H0i Hi H0' H' → VR S H0' H' v x → saidOk wd x = some r → (∀ w H2 H2', Aft S g H0i Hi H2 H2' → Dr S.K H2 w r → Q w H2') → Qn v H') → tl Ex H Qn
section
variable {X : Cx} {S : Sig} {excs : List Str} {ts : List Tst} {wd : Str → Option (Option Str)}
theorem hds_ok {Z : Cx} {ie : Nat} (hN : Z.N[ie]? = some ("e" : Str)) (he : Z.env.scope.names.lookup ("e" : Str) = some .local) : ∀ {ts : List Tst} {hds : List ExceptHandler}, HdB ts hds →
    (∀ q ∈ ts, Names Z q.1 (.ref (S.cl q.1)) ∧ XfC Z.K (S.cl q.1) ∧ ∀ x, q.2.2 = some x → PySem.W.findIn Z.K (.ref (S.cl q.1)) x = some none) → HdsC Z "e" hds (ts.map (clB S ie))
  | _, _, .nil, _ => .nil
  | _, _, .fld (c := c) (w := w) (attr := attr) (ts := ts) h, f => by
    obtain ⟨f1, f2, f3⟩ := f _ List.mem_cons_self
    refine .named f1 (fun a oe cls d pn hz hd => ?_) (hds_ok hN he h fun q hq => f q (List.mem_cons_of_mem _ hq))
    exact pss_one (ps_ret (pe_tup (pa_cons pe_str (pa_cons (pe_xf f2 (f3 _ rfl) hz hd (pe_var (X := Z.suite a ((a, oe) :: pn)) (i := ie) hN (.inl he) (by decide) (by decide))) pa_nil))))
  | _, _, .bare (c := c) (w := w) (ts := ts) h, f => by
    obtain ⟨f1, f2, f3⟩ := f _ List.mem_cons_self
    refine .bare f1 (fun a oe cls d pn hz hd => ?_) (hds_ok hN he h fun q hq => f q (List.mem_cons_of_mem _ hq))
    exact pss_one (ps_ret (pe_tup (pa_cons pe_str pa_nil)))
/-- the clauses serve each class of errors that is told of -/
theorem chain_ok {K : PySem.W.Frag} {ie : Nat} {Wout : WX} {De : Ends} {c at_ : Str} {dx : Addr} {v : V} {d : D} {σ : L2.St} {g : Gen} {H0i Hi H0' H' : Hp} (hK : K = S.K) (hie : ie < σ.length) (a1 : Aft S g H0i Hi H0' H') (h1 : H' dx = some (.xd [(S.at_ c, v)])) (h2 : Dr S.K H0' v d)
    {q0 : Tst} (hret : ∀ w H2 H2', Aft S g H0i Hi H2 H2' → Dr S.K H2 w (hitD q0.2.1 q0.2.2 d) → De.rt w H2') : ∀ {ts : List Tst}, (∀ q ∈ ts, PySem.W.exmOne K (.ref (S.cl c)) (.ref (S.cl q.1)) = some (decide (c = q.1)) ∧ ∀ x, q.2.2 = some x → x = S.at_ q.1) →
      ts.find? (fun q => decide (c = q.1)) = some q0 → wChain K ie Wout De (ts.map (clB S ie)) (.ref (S.cl c)) (some dx) σ H'
  | [], _, h => by cases h
  | q :: ts, f, h => by
    obtain ⟨f1, f2⟩ := f q List.mem_cons_self
    refine ⟨_, f1, fun hb a na => ?_, fun hb => ?_⟩
    · have e := of_decide_eq_true hb
      rw [List.find?_cons_of_pos (by simpa using e)] at h
      cases h
      obtain ⟨cq, w, at2⟩ := q0
      cases at2 with
      | none =>
        refine ⟨by simp [sizeLine_eq], fun p hp => ?_⟩
        exact hret (.ref p) _ _ (a1.trans (Aft.new a1.sub a1.gen a1.tabs hp (fun ps z => by cases z))) (.tup (SqT.of upd_same) (.cons (.str _) .nil))
      | some at2 =>
        have ea : at2 = S.at_ c := by rw [f2 _ rfl]; exact congrArg S.at_ e.symm
        have ec : c = cq := e
        refine ⟨.ref a, List.getElem?_set_self hie, rfl, by rw [ec], dx, _, v, rfl, h1, by rw [ea]; simp [List.lookup], ?_⟩
        refine ⟨by simp [sizeLine_eq], fun p hp => ?_⟩
        exact hret (.ref p) _ _ (a1.trans (Aft.new a1.sub a1.gen a1.tabs hp (fun ps z => by cases z))) (.tup (SqT.of upd_same) (.cons (.str _) (.cons (h2.same (same_new (a1.sub.free hp))) .nil)))
    · have e := of_decide_eq_false hb
      rw [List.find?_cons_of_neg (by simpa using e)] at h
      exact chain_ok (at_ := at_) hK hie a1 h1 h2 hret (fun q hq => f q (List.mem_cons_of_mem _ hq)) h
theorem said_calleeB {wr : Bool} {g : Addr} {bg : List Stmt} {sg : Scope} {cdv : Value} (hK : X.K = S.K) (SD : SaidDefB X.K X.mg S excs ts wd) (hb : SaidB wr ts bg) (Sc : FnScope (nmB wr) ["call"] sg)
    (loc : (nmB wr).all (lk sg) = true) (glb : (ts.map (·.1)).all (fun x => glB sg x && !dbg x) = true) (hwd : wd "" = if wr then some none else none)
    {f c' : Addr} {s : Shared} {H : Hp} {Q : VK} {tl : XK → Hp → VK → Prop} {q : Str}
    (act : ∀ (W : WX) (pn : List (Addr × Obj)) (xe : Value → Shared → Prop) (p1 p2 : Pos), Takes (inDef X CX0 (nmB wr) "_law_said" sg g cdv s H E0 pn xe) W →
        PE (inDef X CX0 (nmB wr) "_law_said" sg g cdv s H E0 pn xe) (.Call (.Name "call" p1) [] [] p2) (fun σZ HZ Q => σZ[0]? = some (some (.ref f)) ∧ HZ c' = some (LamX.CodeO c' q) ∧ tl (WE W σZ) HZ Q))
    (isC : H c' = some (LamX.CodeO c' q)) (tt : TTsB S excs wd tl H Q) :
    ∃ t, PSs (cxOf CX0 X.prog X.w X.K X.mg X.base (nmB wr) "_law_said" sg g cdv X.A X.stack s H E0).nox bg t ∧ t { nx := fun _ H' => Q .non H', rt := Q } (L2.start (nmB wr) [.ref f]) H := by
  let Z : Cx := (cxOf CX0 X.prog X.w X.K X.mg X.base (nmB wr) "_law_said" sg g cdv X.A X.stack s H E0).nox
  have lkx : ∀ x ∈ nmB wr, sg.names.lookup x = some .local := fun x hx => lk_of (List.all_eq_true.mp loc x hx)
  have glx : ∀ x ∈ ts.map (·.1), Gl Z x ∧ (x == ("__debug__" : Str)) = false := fun x hx => gl_b (Y := Z) rfl (List.all_eq_true.mp glb x hx)
  have facts : ∀ q ∈ ts, Names Z q.1 (.ref (S.cl q.1)) ∧ XfC Z.K (S.cl q.1) ∧ ∀ x, q.2.2 = some x → PySem.W.findIn Z.K (.ref (S.cl q.1)) x = some none := fun q hq => by
    have m1 : q.1 ∈ ts.map (·.1) := List.mem_map.mpr ⟨q, hq, rfl⟩
    exact ⟨⟨(glx _ m1).1, (glx _ m1).2, .inl (SD.cls _ m1)⟩, SD.xf q hq, fun x hx => (SD.attr q hq x hx).2⟩
  have fk : ∀ c ∈ excs, ∀ q ∈ ts, PySem.W.exmOne X.K (.ref (S.cl c)) (.ref (S.cl q.1)) = some (decide (c = q.1)) ∧ ∀ x, q.2.2 = some x → x = S.at_ q.1 := fun c hc q hq => ⟨SD.kit c hc q hq, fun x hx => (SD.attr q hq x hx).1⟩
  cases hb with
  | wrap hh =>
    have l1 : Z.env.scope.names.lookup ("found" : Str) = some .local := lkx _ (by simp [nmB])
    have l2 : Z.env.scope.names.lookup ("e" : Str) = some .local := lkx _ (by simp [nmB])
    refine ⟨_, pss_cons (ps_try_chain (X := Z) (i := 2) (n := "e") (Wout := fun _ _ _ _ => False) rfl rfl Sc.nd rfl l2 takes_none5 (fun W pn xe tk _ => pss_one (ps_set (i := 1) (X := Z.tr pn xe) Sc.nd rfl (.inl l1) (act W pn xe _ _ tk) rfl (.inr l1))) (hds_ok (S := S) (ie := 2) rfl l2 hh facts))
      (pss_one (ps_ret (pe_lst (pa_cons (pe_var (X := Z) (i := 1) rfl (.inl l1) (by decide) (by decide)) pa_nil)))), ?_⟩
    refine ⟨rfl, isC, tt _ _ (fun c dx v d r g H0i Hi H0' H' hc h1 h2 h3 h4 h5 => ?_) (fun v x r g H0i Hi H0' H' h1 h2 h3 h4 => ?_)⟩
    · obtain ⟨q0, e1, e2⟩ := SD.one c hc d r h4
      subst e2
      exact chain_ok (at_ := "") hK (by simp [L2.start, nmB]) h1 h2 h3 (De := { nx := _, rt := Q }) h5 (fk c hc) e1
    · refine ⟨v, by simp [L2.start, nmB], by simp [sizeLine_eq], fun p hp => ?_⟩
      rw [saidOk, hwd] at h3
      cases x with
      | d x =>
        cases h3
        exact h4 (.ref p) _ _ (h1.trans (Aft.new h1.sub h1.gen h1.tabs hp (fun ps z => by cases z))) (.lst upd_same (.cons (Dr.same (same_new (h1.sub.free hp)) h2) .nil))
      | gn => cases h3
      | sc ns => cases h3
      | co _ => cases h3
      | bo ds => cases h3
  | plain hh =>
    have l2 : Z.env.scope.names.lookup ("e" : Str) = some .local := lkx _ (by simp [nmB])
    refine ⟨_, pss_cons (ps_try_chain (X := Z) (i := 1) (n := "e") (Wout := fun _ _ _ _ => False) rfl rfl Sc.nd rfl l2 takes_none5 (fun W pn xe tk _ => pss_one (ps_expr (act W pn xe _ _ tk) rfl)) (hds_ok (S := S) (ie := 1) rfl l2 hh facts))
      (pss_one (ps_ret (pe_tup (pa_cons pe_str pa_nil)))), ?_⟩
    refine ⟨rfl, isC, tt _ _ (fun c dx v d r g H0i Hi H0' H' hc h1 h2 h3 h4 h5 => ?_) (fun v x r g H0i Hi H0' H' h1 h2 h3 h4 => ?_)⟩
    · obtain ⟨q0, e1, e2⟩ := SD.one c hc d r h4
      subst e2
      exact chain_ok (at_ := "") hK (by simp [L2.start, nmB]) h1 h2 h3 (De := { nx := _, rt := Q }) h5 (fk c hc) e1
    · refine ⟨by simp [sizeLine_eq], fun p hp => ?_⟩
      rw [saidOk, hwd] at h3
      cases h3
      exact h4 (.ref p) _ _ (h1.trans (Aft.new h1.sub h1.gen h1.tabs hp (fun ps z => by cases z))) (.tup (SqT.of upd_same) (.cons (.str _) .nil))
end
end PD
set_option Elab.async false
set_option linter.all false
set_option maxRecDepth 100000
set_option autoImplicit false
namespace PD
open PySem PySem.Spec L2

theorem noPar_eq {a : Arguments} (h : noPar a = true) : a = ⟨[], [], none, [], [], none, []⟩ := by
  obtain ⟨a1, a2, a3, a4, a5, a6, a7⟩ := a
  unfold noPar at h
  simp only [Bool.and_eq_true, List.isEmpty_iff, Option.isNone_iff_eq_none] at h
  obtain ⟨⟨⟨⟨⟨⟨rfl, rfl⟩, rfl⟩, rfl⟩, rfl⟩, rfl⟩, rfl⟩ := h
  rfl
theorem onePN_eq {a : Arguments} {y : Str} (h : onePN a = some y) : (y = "x" ∨ y = "y") ∧ ∃ pa i0 k0 pb, a = oneP y pa i0 k0 pb := by
  unfold onePN at h
  split at h
  · split at h
    · rename_i hy
      cases h
      exact ⟨hy, _, _, _, _, rfl⟩
    · cases h
  · cases h
theorem lamD_by {N : List Str} {sc scope : Scope} {y : Str} (h : lamDB N sc scope y = true) : LamD N sc scope y := by
  unfold lamDB at h
  simp only [Bool.and_eq_true, Bool.or_eq_true, Bool.not_eq_true', decide_eq_true_eq, decide_eq_false_iff_not, List.all_eq_true] at h
  obtain ⟨h1, h2, h3, h4, h5, h6⟩ := h
  refine ⟨h1, h2, h3, fun z hz => ⟨(h6 z hz).1, fun e => ?_⟩, fun z hz e => ?_, h4, h5⟩
  · exact (h6 z hz).2.1.elim (fun q => absurd e q) id
  · exact (h6 z hz).2.2.elim (fun q => absurd e q) id
/-- a def at a level, whatever its caller -/
def CallAt (P : Program) (w : World) (K : PySem.W.Frag) (mg : Str → Option Value) (base : Heap) (S : Sig) (k : Nat) (f : Str) (n : Nat) (m : List Vl → M D) : Prop :=
  ∃ (fa : Addr) (fd : FuncData) (ps : List Str) (sp : Sp), FnG P w K mg base (L2.CX P w) k fa fd ps sp ∧ mg f = some (.ref fa) ∧ PySem.W.keepIn K (.ref fa) = true ∧ Binds K fd ps [] ∧ SpOk S n m sp
/-- what a def's code object says of its table -/
def TabAt (base : Heap) (mg : Str → Option Value) (T : List (Addr × Str)) (code : Value) (q : Str) : Prop :=
  ∃ c P, code = .ref c ∧ (P, q ++ "<lambda>") ∈ T ∧ (∀ p ∈ T, p.1 = P → p.2 = q ++ "<lambda>") ∧ LamX.TabB base mg c P
theorem saidOf_known {word : Str → Option (Option Str)} {excs : List Str} (known : ∀ c : Str, c ≠ "" → word c ≠ none → c ∈ excs) {c : Str} {d r : D} (e : saidOf word c d = some r) : c ∈ excs := by
  unfold saidOf at e
  split at e
  · cases e
  · rename_i h
    exact known c h fun z => by rw [z] at e; cases e
theorem said_okA {X : Cx} {S : Sig} {W : WX} {C : Cfg} {F : Fns} {excs : List Str} {ts : List Tst} {k : Nat} (G : Gd0 X S W C F) (SD : SaidDef X.K X.mg S excs ts F.word) (now : F.word "" = none) (known : ∀ c : Str, c ≠ "" → F.word c ≠ none → c ∈ excs) (tab : TabAt X.base X.mg S.T X.env.code X.env.qual)
    (fns : ∀ f n i, fnIx C.fns f n = some i → CallAt X.prog X.w X.K X.mg X.base S k f n (F.call i)) (room : Room (k + 2) X.A) : SaidOk X S W C F := by
  intro params body scope lpos p pos c hg hlb hbody
  obtain ⟨g, pg, bg, sg, dV, kV, doc, pm, cdv, ct, oc, an, od, osl, m1, m2, m3, m4, m5, m6, m7, m8, m9⟩ := SD.df
  obtain ⟨cc, P, t1, t2, t3, t4⟩ := tab
  have va : Vis sg "call" := .inl (lk_of (List.all_eq_true.mp m8 _ (by simp)))
  have inner : ∀ (A : Around) (outer : List PySem.Env) (s : Shared) (H : Hp) (E : XK) (f c' : Addr), A.guards = some [] → Room k (A.deeper (LamX.lamEnv X scope s.heap.objs.size f c')) → PE (LamX.lamCx X A outer s H E scope f c') body (RE S (fun cls d _ H => E cls d H) (ev F c)) := fun A outer s H E f c' gd r => hbody _ _
      { hN := G.hN, hsc := rfl, hK := G.hK, hw := G.hw, nd := G.nd, calm := rfl, room := r.mono (Nat.zero_le _), guards := gd, own := passes_of rfl, tk := takes_of rfl rfl rfl rfl, blt := G.blt, sys := G.sys, cst := G.cst,
        fns := fun x n i hi => by
          obtain ⟨fa, fd, ps, sp, k1, k2, k3, k4, k5⟩ := fns x n i hi
          exact ⟨k, fa, fd, ps, sp, k1, r, k2, k3, k4, k5⟩ }
  have call : PE X (.Call (.Name "_law_said" p) [.Lambda params body scope lpos] [] pos) (fun σ H Q => LamX.Tabs S.T H ∧ ∀ H1, LamX.ExtN H H1 → LamX.Tabs S.T H1 → TTs S excs F.word (fun E H' Q' => RE S (fun cls d _ H => E cls d H) (ev F c) σ H' Q') H1 Q) := by
    unfold lamB at hlb
    rw [Bool.or_eq_true, Bool.and_eq_true] at hlb
    rcases hlb with ⟨hnp, hls⟩ | hls
    · have hp := noPar_eq hnp
      subst hp
      have L : LamX.LamS X.env.scope scope := by rw [G.hsc]; exact LamX.lamS_by hls
      exact lam_call (X := X) (T := S.T) (k := k) (t := fun E => RE S (fun cls d _ H => E cls d H) (ev F c)) (TT := TTs S excs F.word) (params := ⟨[], [], none, [], [], none, []⟩) (scope := scope) (p := p) (lpos := lpos) (pos := pos) (body := body) (gl_of G.hsc hg) m1 m2 m3 m4 m5 m6 rfl va t4 t1 t2 t3 room G.guards L rfl (fun _ _ _ _ _ => rfl)
        inner (by decide) (by decide) (by decide) (fun f c' s H Q tl act isC tt => said_callee G.hK SD m7 m6 m8 m9 G.blt act isC tt)
    · split at hls
      case h_2 => cases hls
      rename_i y hnp
      obtain ⟨hy, pa, i0, k0, pb, rfl⟩ := onePN_eq hnp
      have L : LamD X.N X.env.scope scope y := by rw [G.hsc, G.hN]; exact lamD_by hls
      exact lamD_call hy (X := X) (T := S.T) (k := k) (t := fun E => RE S (fun cls d _ H => E cls d H) (ev F c)) (TT := TTs S excs F.word) (scope := scope) (p := p) (lpos := lpos) (pos := pos) (body := body) (gl_of G.hsc hg) m1 m2 m3 m4 m5 m6 rfl va t4 t1 t2 t3 room G.guards L
        inner (by decide) (by decide) (by decide) (fun f c' s H Q tl act isC tt => said_callee G.hK SD m7 m6 m8 m9 G.blt act isC tt)
  refine PE.weak call fun σ H Q h => ?_
  obtain ⟨env, g0, He, H0e, H0, R, h⟩ := h
  refine ⟨R.tabs, fun H1 ext tabs1 l hl Ex Qn hex hno => ?_⟩
  have a1 : Aft S g0 H0 H H0 H1 := Aft.lam R.sub R.ntbl R.gen ext tabs1
  have a2 : Aft S g0 H0 H H0 (upd H1 l (.lst [])) := a1.trans (Aft.grow a1.sub a1.gen a1.tabs hl)
  have R2 := R.step a2
  have ng : S.gm ≠ some l := fun z => by
    obtain ⟨gl, e1, _⟩ := a1.gen l z
    rw [hl] at e1; cases e1
  have l0 : H0 l = none := a1.sub.free hl
  -- l may be a table's place at the call: it is not, by what is tracked
  have lH : Fre H l := a1.stp.th l (.inl hl)
  have key : ∀ {g' : Gen} {H2 H2' : Hp}, Aft S g' H0 (upd H1 l (.lst [])) H2 H2' → H2' l = some (.lst []) ∧ H2 l = none := fun {g' H2 H2'} a => by
    refine ⟨a.stp.fr l _ upd_same ng (fun ps z => by cases z), ?_⟩
    cases z : H2 l with
    | none => rfl
    | some u =>
      rcases a.stp.fresh l (by rw [z]; simp) with y | y
      · exact absurd l0 y
      · exact absurd rfl (y.ne upd_same (fun ps z => by cases z))
  refine ⟨env, g0, He, H0e, H0, R2, ?_⟩
  simp only [ev] at h
  cases e : ev F c env g0 with
  | st => rw [e] at h; exact h
  | ok x g' =>
    rw [e] at h
    have h : Pst S W σ H0 H (VR S) Q ((M.ofO ((saidOk F.word x).map Vl.d)) g') := h
    rw [saidOk, now] at h
    exact fun v H2 H2' a r => hno v g' H0 H H2 H2' (a2.trans a) fun w H3 H3' a3 hw => h w H3 H3' a3 hw
  | er cn d g' =>
    rw [e] at h
    intro dx v H2 H2' a q1 q2
    have h : Pst S W σ H0 H (VR S) Q ((M.ofO ((saidOf F.word cn d).map Vl.d)) g') := h
    cases e2 : saidOf F.word cn d with
    | none => rw [e2] at h; exact h.elim
    | some r =>
      rw [e2] at h
      have hc : cn ∈ excs := saidOf_known known e2
      obtain ⟨k1, k2⟩ := key a
      refine hex cn dx v d r g' H0 H H2 H2' hc k1 k2 lH (a2.trans a) q1 q2 e2 fun w H3 H3' a3 hw => h w H3 H3' a3 hw
theorem said_okB {X : Cx} {S : Sig} {W : WX} {C : Cfg} {F : Fns} {excs : List Str} {ts : List Tst} {k : Nat} (G : Gd0 X S W C F) (SD : SaidDefB X.K X.mg S excs ts F.word) (known : ∀ c : Str, c ≠ "" → F.word c ≠ none → c ∈ excs) (tab : TabAt X.base X.mg S.T X.env.code X.env.qual)
    (fns : ∀ f n i, fnIx C.fns f n = some i → CallAt X.prog X.w X.K X.mg X.base S k f n (F.call i)) (room : Room (k + 2) X.A) : SaidOk X S W C F := by
  intro params body scope lpos p pos c hg hlb hbody
  obtain ⟨wr, g, pg, bg, sg, dV, kV, doc, pm, cdv, ct, oc, an, od, osl, m1, m2, m3, m4, m5, m6, m7, m8, m9, mw⟩ := SD.df
  obtain ⟨cc, P, t1, t2, t3, t4⟩ := tab
  have va : Vis sg "call" := .inl (lk_of (List.all_eq_true.mp m8 _ (by cases wr <;> simp [nmB])))
  have n0 : (nmB wr)[0]? = some ("call" : Str) := by cases wr <;> rfl
  have inner : ∀ (A : Around) (outer : List PySem.Env) (s : Shared) (H : Hp) (E : XK) (f c' : Addr), A.guards = some [] → Room k (A.deeper (LamX.lamEnv X scope s.heap.objs.size f c')) → PE (LamX.lamCx X A outer s H E scope f c') body (RE S (fun cls d _ H => E cls d H) (ev F c)) := fun A outer s H E f c' gd r => hbody _ _
      { hN := G.hN, hsc := rfl, hK := G.hK, hw := G.hw, nd := G.nd, calm := rfl, room := r.mono (Nat.zero_le _), guards := gd, own := passes_of rfl, tk := takes_of rfl rfl rfl rfl, blt := G.blt, sys := G.sys, cst := G.cst,
        fns := fun x n i hi => by
          obtain ⟨fa, fd, ps, sp, k1, k2, k3, k4, k5⟩ := fns x n i hi
          exact ⟨k, fa, fd, ps, sp, k1, r, k2, k3, k4, k5⟩ }
  have call : PE X (.Call (.Name "_law_said" p) [.Lambda params body scope lpos] [] pos) (fun σ H Q => LamX.Tabs S.T H ∧ ∀ H1, LamX.ExtN H H1 → LamX.Tabs S.T H1 → TTsB S excs F.word (fun E H' Q' => RE S (fun cls d _ H => E cls d H) (ev F c) σ H' Q') H1 Q) := by
    unfold lamB at hlb
    rw [Bool.or_eq_true, Bool.and_eq_true] at hlb
    rcases hlb with ⟨hnp, hls⟩ | hls
    · have hp := noPar_eq hnp
      subst hp
      have L : LamX.LamS X.env.scope scope := by rw [G.hsc]; exact LamX.lamS_by hls
      exact lam_call (X := X) (T := S.T) (k := k) (t := fun E => RE S (fun cls d _ H => E cls d H) (ev F c)) (TT := TTsB S excs F.word) (params := ⟨[], [], none, [], [], none, []⟩) (scope := scope) (p := p) (lpos := lpos) (pos := pos) (body := body) (gl_of G.hsc hg) m1 m2 m3 m4 m5 m6 n0 va t4 t1 t2 t3 room G.guards L rfl (fun _ _ _ _ _ => rfl)
        inner (by decide) (by decide) (by decide) (fun f c' s H Q tl act isC tt => said_calleeB G.hK SD m7 m6 m8 m9 mw act isC tt)
    · split at hls
      case h_2 => cases hls
      rename_i y hnp
      obtain ⟨hy, pa, i0, k0, pb, rfl⟩ := onePN_eq hnp
      have L : LamD X.N X.env.scope scope y := by rw [G.hsc, G.hN]; exact lamD_by hls
      exact lamD_call hy (X := X) (T := S.T) (k := k) (t := fun E => RE S (fun cls d _ H => E cls d H) (ev F c)) (TT := TTsB S excs F.word) (scope := scope) (p := p) (lpos := lpos) (pos := pos) (body := body) (gl_of G.hsc hg) m1 m2 m3 m4 m5 m6 n0 va t4 t1 t2 t3 room G.guards L
        inner (by decide) (by decide) (by decide) (fun f c' s H Q tl act isC tt => said_calleeB G.hK SD m7 m6 m8 m9 mw act isC tt)
  refine PE.weak call fun σ H Q h => ?_
  obtain ⟨env, g0, He, H0e, H0, R, h⟩ := h
  refine ⟨R.tabs, fun H1 ext tabs1 Ex Qn hex hno => ?_⟩
  have a1 : Aft S g0 H0 H H0 H1 := Aft.lam R.sub R.ntbl R.gen ext tabs1
  have R2 := R.step a1
  refine ⟨env, g0, He, H0e, H0, R2, ?_⟩
  simp only [ev] at h
  cases e : ev F c env g0 with
  | st => rw [e] at h; exact h
  | ok x g' =>
    rw [e] at h
    have h : Pst S W σ H0 H (VR S) Q ((M.ofO ((saidOk F.word x).map Vl.d)) g') := h
    intro v H2 H2' a r
    cases e2 : saidOk F.word x with
    | none => rw [e2] at h; exact h.elim
    | some r2 =>
      rw [e2] at h
      exact hno v x r2 g' H0 H H2 H2' (a1.trans a) r e2 fun w H3 H3' a3 hw => h w H3 H3' a3 hw
  | er cn d g' =>
    rw [e] at h
    intro dx v H2 H2' a q1 q2
    have h : Pst S W σ H0 H (VR S) Q ((M.ofO ((saidOf F.word cn d).map Vl.d)) g') := h
    cases e2 : saidOf F.word cn d with
    | none => rw [e2] at h; exact h.elim
    | some r =>
      rw [e2] at h
      exact hex cn dx v d r g' H0 H H2 H2' (saidOf_known known e2) (a1.trans a) q1 q2 e2 fun w H3 H3' a3 hw => h w H3 H3' a3 hw
/-- a telling, of either form -/
inductive SaidD (K : PySem.W.Frag) (mg : Str → Option Value) (S : Sig) (excs : List Str) (ts : List Tst) (wd : Str → Option (Option Str)) : Prop
  | a (h : SaidDef K mg S excs ts wd) (now : wd "" = none) : SaidD K mg S excs ts wd
  | b (h : SaidDefB K mg S excs ts wd) : SaidD K mg S excs ts wd
theorem said_ok {X : Cx} {S : Sig} {W : WX} {C : Cfg} {F : Fns} {excs : List Str} {ts : List Tst} {k : Nat} (G : Gd0 X S W C F) (SD : SaidD X.K X.mg S excs ts F.word) (known : ∀ c : Str, c ≠ "" → F.word c ≠ none → c ∈ excs) (tab : TabAt X.base X.mg S.T X.env.code X.env.qual)
    (fns : ∀ f n i, fnIx C.fns f n = some i → CallAt X.prog X.w X.K X.mg X.base S k f n (F.call i)) (room : Room (k + 2) X.A) : SaidOk X S W C F := by
  cases SD with
  | a h now => exact said_okA G h now known tab fns room
  | b h => exact said_okB G h known tab fns room
end PD
set_option Elab.async false
set_option linter.all false
set_option maxRecDepth 100000
set_option autoImplicit false
set_option maxHeartbeats 1000000
namespace PD
open PySem PySem.Spec L2

/-- the level of a def's promise by fuel: a call is one, a call through a lambda three -/
def lv (f : Nat) : Nat := 3 * f + 4
/-! ### what is told of a program's globals -/
structure Glb (P : Program) (w : World) (K : PySem.W.Frag) (mg : Str → Option Value) (base : Heap) (S : Sig) (consts : List (Str × D)) (excs : List Str) : Prop where
  hK : K = S.K
  hw : w = S.K.w
  blt : ∀ x ∈ bltNames, mg x = none
  sys : ∃ o, base.get? sysModules = some o
  cst : ∀ x d, consts.lookup x = some d → ∃ u v, mg x = some u ∧ RelV v u ∧ (∀ H, Dr S.K H v d) ∧ TupK S.K v d
  hnd : ∀ c ∈ excs, placeC c = true → (mg c = some (.ref (S.cl c)) ∧ (c == ("__debug__" : Str)) = false) ∧ XfC K (S.cl c) ∧ PySem.W.findIn K (.ref (S.cl c)) "place" = some none ∧ PySem.W.exmOne K (.ref (S.cl c)) (.ref (S.cl c)) = some true ∧ S.at_ c = "place"
  exc : ∀ c ∈ excs, ∀ X : Cx, X.prog = P → X.w = w → X.K = K → X.mg = mg → X.base = base → X.calm = true → X.ex = [] → Room 2 X.A → Gl X c → ExcOk X S c
theorem TabAt.ne {base : Heap} {mg : Str → Option Value} {T : List (Addr × Str)} {code : Value} {q : Str} (h : TabAt base mg T code q) : T ≠ [] := by
  obtain ⟨c, P, _, h1, _⟩ := h
  exact List.ne_nil_of_mem h1
/-- a def, as it stands -/
structure En where
  nm : Str
  fa : Addr
  fd : FuncData
  ps : List Str
/-- by its text -/
structure DefTx (K : PySem.W.Frag) (mg : Str → Option Value) (base : Heap) (tb : List (Addr × Str)) (fns : List (Str × Nat)) (consts : List (Str × D)) (excs : List Str) (e : En) (n len : Nat) (body : List Sm) : Prop where
  tx : ∃ (name qual : Str) (params : Arguments) (bd : List Stmt) (scope : Scope) (dV kV doc pm cdv ct oc : Value) (an od : Option Addr) (osl : Array (Option Value)) (N L gs : List Str) (lam : Bool),
    e.fd = PySem.W.fnOf name qual params bd scope dV kV doc pm an cdv ct ∧ K.lookup e.fa = some ⟨oc, od, .func (PySem.W.fnOf name qual params bd scope dV kV doc pm an cdv ct), osl⟩ ∧ PySem.W.codeIn K cdv qual = true ∧ FnScope N e.ps scope ∧
    cSs ⟨N, scope, fns, consts, excs, gs, lam⟩ L bd = some body ∧ N.length = len ∧ (lam = true → TabAt base mg tb cdv (qual ++ ".<locals>."))
  n : e.ps.length = n
def fnsOf (T : List (En × Df)) : List (Str × Nat) := T.map fun q => (q.1.nm, q.2.ar)
theorem fnIx_get : ∀ {T : List (En × Df)} {x : Str} {n i : Nat}, fnIx (fnsOf T) x n = some i → ∃ q, T[i]? = some q ∧ q.1.nm = x ∧ q.2.ar = n
  | [], _, _, _, h => by cases h
  | q :: T, x, n, i, h => by
    have h : (if x = q.1.nm then (if q.2.ar = n then some 0 else none) else (fnIx (fnsOf T) x n).map (· + 1)) = some i := h
    split at h
    · split at h
      · cases h
        exact ⟨q, rfl, Eq.symm (by assumption), by assumption⟩
      · cases h
    · obtain ⟨j, h1, rfl⟩ := mapS h
      obtain ⟨q', k1, k2⟩ := fnIx_get h1
      exact ⟨q', by simpa using k1, k2⟩
/-- the globals of the defs -/
structure DefGl (K : PySem.W.Frag) (mg : Str → Option Value) (e : En) : Prop where
  gf : mg e.nm = some (.ref e.fa)
  kf : PySem.W.keepIn K (.ref e.fa) = true
  bf : Binds K e.fd e.ps []
section
variable {P : Program} {w : World} {K : PySem.W.Frag} {mg : Str → Option Value} {base : Heap} {S : Sig} {consts : List (Str × D)} {excs : List Str} {tst : List Tst} {wd : Str → Option (Option Str)} {nW : Nat}
theorem fnG_st {k : Nat} {e : En} {n : Nat} (hn : e.ps.length = n) : FnG P w K mg base (L2.CX P w) k e.fa e.fd e.ps (spOf S n fun _ => M.stuck) :=
  ⟨fun vs H Q E ⟨xs, g, H0, a, b, _⟩ => by rw [b, hn], fun A outer s H args us vs Q E hr hgd e0 hb r h => by
    obtain ⟨xs, g, H0, _, _, _, _, _, _, _, _, h⟩ := h
    exact h.elim⟩
theorem fnG_tx {T : List (En × Df)} (B : Glb P w K mg base S consts excs) (hG : ∀ q ∈ T, DefGl K mg q.1) {f : Nat}
    (ih : ∀ i q, T[i]? = some q → FnG P w K mg base (L2.CX P w) (lv f) q.1.fa q.1.fd q.1.ps (spOf S q.2.ar (callF wd nW (T.map (·.2)) f i)))
    {e : En} {n len : Nat} {body : List Sm} (D : DefTx K mg base S.T (fnsOf T) consts excs e n len body) (hsd : S.T ≠ [] → SaidD K mg S excs tst wd ∧ ∀ c : Str, c ≠ "" → wd c ≠ none → c ∈ excs) :
    FnG P w K mg base (L2.CX P w) (lv f + 3) e.fa e.fd e.ps (spOf S n fun xs => (M.ofO (xs.mapM slOf)).bd fun sl => (exSs ⟨callF wd nW (T.map (·.2)) f, wd⟩ nW body (sl ++ List.replicate (len - n) .un)).bd endD) := by
  obtain ⟨⟨name, qual, params, bd, scope, dV, kV, doc, pm, cdv, ct, oc, an, od, osl, N, L, gs, lam, e1, lk, hcd, Sc, hc, hlen, htab⟩, hn⟩ := D
  refine ⟨fun vs H Q E ⟨xs, g, H0, a, b, _⟩ => by rw [b, hn], fun A outer s H args us vs Q E hr hgd e0 hb r h => ?_⟩
  obtain ⟨xs, g, H0, hxs, hvs, sub, gn, nt, gen, tabs, rv, h⟩ := h
  rw [e1] at hb
  refine LamX.run_ofS (N := N) lk hcd Sc hr e0 hb r (by rw [hvs, hn]) fun hr' => ?_
  let X : Cx := cxOf (L2.CX P w) P w K mg base N qual scope e.fa cdv A outer s H E
  let C : Cfg := ⟨N, scope, fnsOf T, consts, excs, gs, lam⟩
  have tk : Takes X (fun cls d _ H => E cls d H) := takes_of rfl rfl rfl rfl
  have G0 : Gd0 X S (fun cls d _ H => E cls d H) C ⟨callF wd nW (T.map (·.2)) f, wd⟩ :=
    { hN := rfl, hsc := rfl, hK := B.hK, hw := B.hw, nd := Sc.nd, calm := rfl, room := hr'.mono (Nat.zero_le _), guards := hgd, own := passes_of rfl, tk := tk, blt := B.blt, sys := B.sys, cst := B.cst,
      fns := fun x m i hi => by
        obtain ⟨q, k1, k2, k3⟩ := fnIx_get hi
        have dg := hG q (List.mem_of_getElem? k1)
        refine ⟨lv f, q.1.fa, q.1.fd, q.1.ps, _, ih i q k1, hr'.mono (by omega), ?_, dg.kf, dg.bf, ?_⟩
        · rw [← k2]; exact dg.gf
        · rw [← k3]; exact spOk_of }
  have G : Gd X S (fun cls d _ H => E cls d H) C ⟨callF wd nW (T.map (·.2)) f, wd⟩ := ⟨G0, fun hl => said_ok (k := lv f) G0 (hsd (htab hl).ne).1 (hsd (htab hl).ne).2 (htab hl) (fun x m i hi => by
    obtain ⟨q, k1, k2, k3⟩ := fnIx_get hi
    have dg := hG q (List.mem_of_getElem? k1)
    refine ⟨q.1.fa, q.1.fd, q.1.ps, _, ih i q k1, ?_, dg.kf, dg.bf, ?_⟩
    · rw [← k2]; exact dg.gf
    · rw [← k3]; exact spOk_of) hr'⟩
  have Gt : Gs X S (fun cls d _ H => E cls d H) C ⟨callF wd nW (T.map (·.2)) f, wd⟩ :=
    { g := G, kind := Sc.kind,
      sto := fun x i hi => ⟨slot_ix G hi, (by
        unfold Cfg.slot at hi
        split at hi
        · rename_i hc
          rw [Bool.and_eq_true] at hc
          exact loc_of hc.1
        · cases hi), Or.inl rfl⟩,
      exc := fun c hc hg => B.exc c hc X rfl rfl rfl rfl rfl rfl rfl (hr'.mono (by unfold lv; omega)) (gl_of (sc := scope) rfl hg)
      stk := ⟨rfl, rfl⟩
      hnd := fun c hc hg hp => by
        obtain ⟨⟨h1, h2⟩, h3, h4, h5, h6⟩ := B.hnd c hc hp
        exact ⟨⟨gl_of (sc := scope) rfl hg, h2, .inl h1⟩, h3, h4, h5, h6⟩ }
  refine ⟨_, ss_of (N := nW) Gt hc, ?_⟩
  dsimp only at h
  rw [M.ofO_bd] at h
  cases e2 : xs.mapM slOf with
  | none => rw [e2] at h; exact h.elim
  | some sl =>
    rw [e2] at h
    have hN : n ≤ N.length := by
      have := congrArg List.length Sc.pre
      rw [List.length_take] at this
      omega
    have R := rl_start (Nn := N) (n := n) sub gn nt gen tabs rv e2 hvs hN
    rw [hlen] at R
    refine ⟨_, g, H, H0, H0, R, ?_⟩
    have h : Pst S (fun c d _ H => E c d H) [] H0 H (relR S) Q (((exSs ⟨callF wd nW (T.map (·.2)) f, wd⟩ nW body (sl ++ List.replicate (len - n) .un)).bd endD) g) := h
    unfold M.bd at h
    cases e3 : exSs ⟨callF wd nW (T.map (·.2)) f, wd⟩ nW body (sl ++ List.replicate (len - n) .un) g with
    | st => rw [e3] at h; exact h.elim
    | er c d g' => rw [e3] at h; exact fun dx v σ H0' H' a q1 q2 => h dx v H0' H' a q1 q2
    | ok x g' =>
      rw [e3] at h
      cases x with
      | nx e' => exact fun σ' H0' H' R' _ => h .non H0' H' (R'.aft (Aft.refl R')) .non
      | rt d => exact fun v H0' H' a r => h v H0' H' a r
      | bk e' => exact h.elim
      | ct e' => exact h.elim
/-- every def keeps what is told of it -/
theorem fn_all {T : List (En × Df)} (B : Glb P w K mg base S consts excs) (hG : ∀ q ∈ T, DefGl K mg q.1)
    (hn : ∀ q ∈ T, q.1.ps.length = q.2.ar)
    (htx : ∀ q ∈ T, ∀ n len body, q.2 = .tx n len body → DefTx K mg base S.T (fnsOf T) consts excs q.1 n len body) (hsd : S.T ≠ [] → SaidD K mg S excs tst wd ∧ ∀ c : Str, c ≠ "" → wd c ≠ none → c ∈ excs)
    (hsp : ∀ q ∈ T, ∀ n m, q.2 = .sp n m → ∀ f, FnG P w K mg base (L2.CX P w) (lv f + 3) q.1.fa q.1.fd q.1.ps (spOf S n m)) :
    ∀ f i q, T[i]? = some q → FnG P w K mg base (L2.CX P w) (lv f) q.1.fa q.1.fd q.1.ps (spOf S q.2.ar (callF wd nW (T.map (·.2)) f i)) := by
  intro f
  induction f with
  | zero => exact fun i q hq => fnG_st (hn q (List.mem_of_getElem? hq))
  | succ f ih =>
    intro i q hq
    have hm := List.mem_of_getElem? hq
    have e0 : (T.map (·.2))[i]? = some q.2 := by rw [List.getElem?_map, hq]; rfl
    have e1 : callF wd nW (T.map (·.2)) (f + 1) i = fun xs => match (T.map (·.2))[i]? with
      | some (.tx n len body) => (M.ofO (xs.mapM slOf)).bd fun sl => (exSs ⟨callF wd nW (T.map (·.2)) f, wd⟩ nW body (sl ++ List.replicate (len - n) .un)).bd endD
      | some (.sp _ m) => m xs
      | none => .stuck := rfl
    rw [e1, e0]
    cases e2 : q.2 with
    | tx n len body => exact fnG_tx B hG ih (htx q hm n len body e2) hsd
    | sp n m => exact hsp q hm n m e2 f
end
end PD
set_option Elab.async false
set_option linter.all false
set_option maxRecDepth 100000
set_option autoImplicit false
set_option maxHeartbeats 1000000
namespace PD
open PySem PySem.Spec L2

/-! ### a law's def -/
def gDict (g : Gen) : D := .dict [(.str "great", .list (g.great.map .int)), (.str "seed", .int g.seed), (.str "turns", .int g.turns)]
def Sig.on (S : Sig) (gm : Option Addr) : Sig := { S with gm := gm }
/-- what is known, the tables left out -/
def knownH (H : Hp) : Hp := fun b => match H b with
  | some (.tbl _) => none
  | o => o
theorem known_sub {H : Hp} : Same (knownH H) H := fun b u e => by
  unfold knownH at e
  split at e
  · cases e
  · exact e
theorem known_at {H : Hp} {b : Addr} {u : HO} (e : H b = some u) (n : ∀ ps, u ≠ .tbl ps) : knownH H b = some u := by
  unfold knownH
  split
  · rename_i ps h
    rw [h] at e
    exact absurd (Option.some.inj e).symm (n ps)
  · exact e
theorem known_sq {K : PySem.W.Frag} {H : Hp} {a : Addr} {xs : List V} (h : SqL K H a xs) : SqL K (knownH H) a xs := by
  rcases h with (h | ⟨o, h⟩) | h
  · exact .inl (.inl (known_at h (fun ps z => by cases z)))
  · exact .inl (.inr ⟨o, known_at h (fun ps z => by cases z)⟩)
  · exact .inr h
def offH (H : Hp) (p : Addr) : Hp := fun b => if b = p then none else H b
theorem offH_ne {H : Hp} {p b : Addr} (h : b ≠ p) : offH H p b = H b := if_neg h
theorem offH_sub {H : Hp} {p : Addr} : Same (offH H p) H := fun b u e => by
  unfold offH at e
  split at e
  · cases e
  · exact e
theorem ints_inv {K : KW} {H : Hp} : ∀ {vs : List V} {ns : List Int}, DrAll K H vs (ns.map PyData.int) → vs = ns.map V.int
  | [], [], _ => rfl
  | [], n :: ns, h => by cases h
  | v :: vs, [], h => by cases h
  | v :: vs, n :: ns, h => by
    cases h with
    | cons h1 h2 =>
      cases h1
      rw [ints_inv h2]; rfl
theorem keyD_str {k : Key} {x : Str} (h : keyD k = .str x) : k = .inr x := by
  cases k with
  | inl i => cases h
  | inr y => cases h; rfl
/-- from data to the drawing's dict -/
theorem Rl.toG {S : Sig} {env : Env} {g gg : Gen} {σ : L2.St} {He H0e H0 H : Hp} {i : Nat} (R : Rl (S.on none) env g σ He H0e H0 H) (hi : env[i]? = some (.fz (gDict gg)))
    (hn : ∀ j s, env[j]? = some s → j ≠ i → s = .un ∨ ∃ ns, s = .sc ns) : ∃ gm od kvs H0', H0 gm = some (.frz od (.dK kvs)) ∧ Rl (S.on (some gm)) (env.set i .gn) gg σ (upd H gm (.dK kvs)) H0' H0' (upd H gm (.dK kvs)) := by
  obtain ⟨o, h1, v, rfl, h2⟩ := R.slots i _ hi
  have h2 : Dr S.K H0 v (gDict gg) := h2
  generalize hd : gDict gg = dd at h2
  cases h2 with
  | @dct gm od kvs ds k1 k2 =>
    have hd : [(PyData.str "great", PyData.list (gg.great.map .int)), (.str "seed", .int gg.seed), (.str "turns", .int gg.turns)] = (kvs.map fun q => keyD q.1).zip ds := by
      have := hd
      unfold gDict at this
      injection this
    have hl := k2.length
    rw [List.length_map] at hl
    match kvs, ds, hl, k1, k2, hd with
    | [p1, p2, p3], [d1, d2, d3], _, k1, k2, hd =>
      simp only [List.map_cons, List.map_nil, List.zip_cons_cons, List.zip_nil_right, List.cons.injEq, Prod.mk.injEq, and_true] at hd
      obtain ⟨⟨e1, rfl⟩, ⟨e2, rfl⟩, e3, rfl⟩ := hd
      obtain ⟨p1a, p1b⟩ := p1
      obtain ⟨p2a, p2b⟩ := p2
      obtain ⟨p3a, p3b⟩ := p3
      obtain rfl := keyD_str e1.symm
      obtain rfl := keyD_str e2.symm
      obtain rfl := keyD_str e3.symm
      cases k2 with
      | cons m1 k2 =>
        cases k2 with
        | cons m2 k2 =>
          cases k2 with
          | cons m3 _ =>
            obtain ⟨gl, xs, e4, e5, e6⟩ := Dr.lst_inv m1
            have e4 : p1b = .ref gl := e4
            subst e4
            obtain rfl : p2b = V.int gg.seed := Dr.int_inv m2
            obtain rfl : p3b = V.int gg.turns := Dr.int_inv m3
            have e7 := ints_inv e6
            subst e7
            have ne : ∀ {b u}, H0 b = some u → (∀ o l, u ≠ .frz o (.dK l)) → b ≠ gm := fun {b u} q n z => by
              rw [z, k1] at q
              exact n _ _ (Option.some.inj q).symm
            have neH : ∀ {b u}, H b = some u → (∀ o l, u ≠ .frz o (.dK l)) → b ≠ gm := fun {b u} q n z => by
              rw [z, R.sub _ _ k1] at q
              exact n _ _ (Option.some.inj q).symm
            have hi2 : i < env.length := (List.getElem?_eq_some_iff.mp hi).1
            refine ⟨gm, od, _, offH H0 gm, k1, ⟨Stp.refl _ _ _, fun b u q => ?_, fun p hp => ?_, fun p hp => ?_, fun p hp => ?_, fun a ps e => R.ntbl a ps (offH_sub _ _ e), fun j s e => ?_, fun j k a hne q1 q2 q3 => ?_⟩⟩
            · have nb : b ≠ gm := fun z => by
                unfold offH at q
                rw [if_pos z] at q; cases q
              rw [upd_ne nb]
              rw [offH_ne nb] at q
              exact R.sub b u q
            · cases hp
              refine ⟨gl, upd_same, ?_⟩
              rw [offH_ne (ne e5 (fun o l z => by cases z))]
              exact e5
            · cases hp
              exact if_pos rfl
            · obtain ⟨ps, m1, m2, m3⟩ := R.tabs p hp
              refine ⟨ps, by rw [upd_ne (neH m1 (fun _ _ z => by cases z))]; exact m1, m2, fun pos cv h => ?_⟩
              obtain ⟨c, e3, e4⟩ := m3 pos cv h
              refine ⟨c, e3, ?_⟩
              rw [upd_ne (neH e4 (fun _ _ z => by unfold LamX.CodeO at z; cases z))]
              exact e4
            · by_cases hj : j = i
              · subst hj
                rw [List.getElem?_set_self hi2] at e
                cases e
                exact ⟨_, h1, gm, rfl, rfl⟩
              · rw [List.getElem?_set_ne (Ne.symm hj)] at e
                obtain ⟨o, l1, l2⟩ := R.slots j s e
                refine ⟨o, l1, ?_⟩
                rcases hn j s e hj with rfl | ⟨ns, rfl⟩
                · trivial
                · obtain ⟨a, m1, m2⟩ := l2
                  refine ⟨a, m1, ?_⟩
                  rcases m2 with (m2 | ⟨o', m2⟩) | m2
                  · exact .inl (.inl (by rw [offH_ne (ne m2 (fun _ l z => by cases z))]; exact m2))
                  · exact .inl (.inr ⟨o', by rw [offH_ne (ne m2 (fun _ l z => by cases z))]; exact m2⟩)
                  · exact .inr m2
            · exfalso
              by_cases hj : j = i
              · subst hj
                unfold Own at q1
                rw [List.getElem?_set_self hi2] at q1
                rcases q1 with ⟨_, q1⟩ | ⟨_, q1⟩ <;> cases q1
              · rcases q1.other hj with ⟨_, q1⟩ | ⟨_, q1⟩ <;> · rcases hn j _ q1 hj with z | ⟨ns, z⟩ <;> cases z
    | [], [], _, _, _, hd => simp at hd
    | [_], [_], _, _, _, hd => simp at hd
    | [_, _], [_, _], _, _, _, hd => simp at hd
    | _ :: _ :: _ :: _ :: _, _ :: _ :: _ :: _ :: _, _, _, _, hd => simp at hd
  | _ => unfold gDict at hd; cases hd
/-- what a law's def is asked, and tells -/
def spLaw (K : PySem.W.Frag) (T : List (Addr × Str)) (P : List Int → Prop) : Sp := fun vs H Q _ => ∃ a ns, vs = [.ref a] ∧ SqL K H a (ns.map V.int) ∧ P ns ∧ LamX.Tabs T H ∧ (∀ b o kvs, H b ≠ some (.frz o (.dK kvs))) ∧ ∀ H', Q (.bl true) H'
/-- the law's text: its first statement, the rest -/
structure LawTx (K : PySem.W.Frag) (mg : Str → Option Value) (base : Heap) (tb : List (Addr × Str)) (fns : List (Str × Nat)) (consts : List (Str × D)) (excs : List Str) (e : En) (len : Nat) (b0 : Sm) (b1 : List Sm) : Prop where
  tx : ∃ (name qual : Str) (params : Arguments) (s0 : Stmt) (s1 : List Stmt) (scope : Scope) (dV kV doc pm cdv ct oc : Value) (an od : Option Addr) (osl : Array (Option Value)) (N L gs : List Str) (lam : Bool),
    e.fd = PySem.W.fnOf name qual params (s0 :: s1) scope dV kV doc pm an cdv ct ∧ K.lookup e.fa = some ⟨oc, od, .func (PySem.W.fnOf name qual params (s0 :: s1) scope dV kV doc pm an cdv ct), osl⟩ ∧ PySem.W.codeIn K cdv qual = true ∧ FnScope N e.ps scope ∧
    cS ⟨N, scope, fns, consts, excs, gs, lam⟩ L s0 = some b0 ∧ cSs ⟨N, scope, fns, consts, excs, gs, lam⟩ L s1 = some b1 ∧ N.length = len ∧ (lam = true → TabAt base mg tb cdv (qual ++ ".<locals>."))
  n : e.ps.length = 1
end PD
set_option Elab.async false
set_option linter.all false
set_option maxRecDepth 100000
set_option autoImplicit false
set_option maxHeartbeats 1000000
namespace PD
open PySem PySem.Spec L2

def lawEnv (len : Nat) (ns : List Int) : Env := .sc ns :: List.replicate (len - 1) .un
theorem SaidD.on {K : PySem.W.Frag} {mg : Str → Option Value} {S : Sig} {excs : List Str} {ts : List Tst} {wd : Str → Option (Option Str)} (h : SaidD K mg S excs ts wd) (gm : Option Addr) : SaidD K mg (S.on gm) excs ts wd := by
  cases h with
  | a h now => exact .a ⟨h.df, h.cls, h.xv, h.caught, h.kit, h.attr, h.one, h.few⟩ now
  | b h => exact .b ⟨h.df, h.cls, h.xf, h.kit, h.attr, h.one⟩
section
variable {P : Program} {w : World} {K : PySem.W.Frag} {mg : Str → Option Value} {base : Heap} {S : Sig} {consts : List (Str × D)} {excs : List Str} {tst : List Tst} {wd : Str → Option (Option Str)} {nW : Nat}
theorem fnG_law {T : List (En × Df)} (B : ∀ gm, Glb P w K mg base (S.on gm) consts excs) (hG : ∀ q ∈ T, DefGl K mg q.1) {f : Nat}
    (ih : ∀ gm i q, T[i]? = some q → FnG P w K mg base (L2.CX P w) (lv f) q.1.fa q.1.fd q.1.ps (spOf (S.on gm) q.2.ar (callF wd nW (T.map (·.2)) f i)))
    {e : En} {len mi : Nat} {c0 : Sm} {cb : List Sm} (D : LawTx K mg base S.T (fnsOf T) consts excs e len c0 cb) (hsd : S.T ≠ [] → SaidD K mg S excs tst wd ∧ ∀ c : Str, c ≠ "" → wd c ≠ none → c ∈ excs) {Pn : List Int → Prop} (h0 : 0 < mi) (hmi : mi < len)
    (pure : ∀ ns, Pn ns → ∀ g, ∃ gg g' g2, exS ⟨callF wd nW (T.map (·.2)) f, wd⟩ nW c0 (lawEnv len ns) g = .ok (.nx ((lawEnv len ns).set mi (.fz (gDict gg)))) g' ∧
      exSs ⟨callF wd nW (T.map (·.2)) f, wd⟩ nW cb ((lawEnv len ns).set mi .gn) gg = .ok (.rt (.bool true)) g2) :
    FnG P w K mg base (L2.CX P w) (lv f + 3) e.fa e.fd e.ps (spLaw K S.T Pn) := by
  obtain ⟨⟨name, qual, params, s0, s1, scope, dV, kV, doc, pm, cdv, ct, oc, an, od, osl, N, L, gs, lam, e1, lk, hcd, Sc, hc0, hc1, hlen, htab⟩, hn⟩ := D
  refine ⟨fun vs H Q E ⟨a, ns, b, _⟩ => by rw [b, hn]; rfl, fun A outer s H args us vs Q E hr hgd e0 hb r h => ?_⟩
  obtain ⟨a, ns, rfl, sq, hP, tabs, nofz, hQ⟩ := h
  rw [e1] at hb
  refine LamX.run_ofS (N := N) lk hcd Sc hr e0 hb r (by rw [hn]; rfl) fun hr' => ?_
  let X : Cx := cxOf (L2.CX P w) P w K mg base N qual scope e.fa cdv A outer s H E
  let C : Cfg := ⟨N, scope, fnsOf T, consts, excs, gs, lam⟩
  have tk : Takes X (fun cls d _ H => E cls d H) := takes_of rfl rfl rfl rfl
  have hK : K = S.K := (B none).hK
  have G : ∀ gm, Gs X (S.on gm) (fun cls d _ H => E cls d H) C ⟨callF wd nW (T.map (·.2)) f, wd⟩ := fun gm =>
    have g0 : Gd0 X (S.on gm) (fun cls d _ H => E cls d H) C ⟨callF wd nW (T.map (·.2)) f, wd⟩ :=
      { hN := rfl, hsc := rfl, hK := hK, hw := (B none).hw, nd := Sc.nd, calm := rfl, room := hr'.mono (Nat.zero_le _), guards := hgd, own := passes_of rfl, tk := tk, blt := (B none).blt, sys := (B none).sys, cst := (B none).cst,
        fns := fun x m i hi => by
          obtain ⟨q, k1, k2, k3⟩ := fnIx_get hi
          have dg := hG q (List.mem_of_getElem? k1)
          refine ⟨lv f, q.1.fa, q.1.fd, q.1.ps, _, ih gm i q k1, hr'.mono (by omega), ?_, dg.kf, dg.bf, ?_⟩
          · rw [← k2]; exact dg.gf
          · rw [← k3]; exact spOk_of }
    have sd : SaidD K mg S excs tst wd → SaidD K mg (S.on gm) excs tst wd := fun h => h.on gm
    have g : Gd X (S.on gm) (fun cls d _ H => E cls d H) C ⟨callF wd nW (T.map (·.2)) f, wd⟩ := ⟨g0, fun hl => said_ok (k := lv f) g0 (sd (hsd (htab hl).ne).1) (hsd (htab hl).ne).2 (htab hl) (fun x m i hi => by
      obtain ⟨q, k1, k2, k3⟩ := fnIx_get hi
      have dg := hG q (List.mem_of_getElem? k1)
      refine ⟨q.1.fa, q.1.fd, q.1.ps, _, ih gm i q k1, ?_, dg.kf, dg.bf, ?_⟩
      · rw [← k2]; exact dg.gf
      · rw [← k3]; exact spOk_of) hr'⟩
    { g := g, kind := Sc.kind,
      sto := fun x i hi => ⟨slot_ix g hi, (by
        unfold Cfg.slot at hi
        split at hi
        · rename_i hc
          rw [Bool.and_eq_true] at hc
          exact loc_of hc.1
        · cases hi), Or.inl rfl⟩,
      exc := fun c hc hg => (B gm).exc c hc X rfl rfl rfl rfl rfl rfl rfl (hr'.mono (by unfold lv; omega)) (gl_of (sc := scope) rfl hg)
      stk := ⟨rfl, rfl⟩
      hnd := fun c hc hg hp => by
        obtain ⟨⟨h1, h2⟩, h3, h4, h5, h6⟩ := (B gm).hnd c hc hp
        exact ⟨⟨gl_of (sc := scope) rfl hg, h2, .inl h1⟩, h3, h4, h5, h6⟩ }
  refine ⟨_, pss_cons (ss_all (N := nW) (G none) (sizeOf s0 + 1) s0 (by omega) hc0) (pss_unlock (pss_ex fun gm => ss_of (N := nW) (G (some gm)) hc1)), ?_⟩
  obtain ⟨gg, g', g2, p1, p2⟩ := pure ns hP ⟨[], 0, 0⟩
  have hN : 1 ≤ N.length := by omega
  have R0 : Rl (S.on none) (lawEnv len ns) ⟨[], 0, 0⟩ (L2.start N [.ref a]) H (knownH H) (knownH H) H := by
    have R := rl_start (S := S.on none) (g := ⟨[], 0, 0⟩) (vs := [.ref a]) (xs := [.sc ns]) (sl := [.sc ns]) (Nn := N) (n := 1) (H0 := knownH H) (H := H) known_sub (fun p z => by cases z) (fun b ps z => by
      unfold knownH at z
      split at z
      · cases z
      · rename_i h; exact h ps z) (fun p z => by cases z) tabs (.cons ⟨a, rfl, by show SqL S.K _ _ _; rw [← hK]; exact known_sq sq⟩ .nil) rfl rfl hN
    rw [hlen] at R
    exact R
  refine ⟨lawEnv len ns, ⟨[], 0, 0⟩, H, knownH H, knownH H, R0, ?_⟩
  rw [p1]
  intro σ' H0' H' R' s'
  have ml : mi < (lawEnv len ns).length := by simp [lawEnv]; omega
  obtain ⟨gm, od, kvs, H0n, hgm, R2⟩ := R'.toG (i := mi) (gg := gg) (List.getElem?_set_self ml) (fun j s hj hne => by
    rw [List.getElem?_set_ne (Ne.symm hne)] at hj
    cases j with
    | zero => have hj : Sl.sc ns = s := by simpa [lawEnv] using hj
              exact .inr ⟨ns, hj.symm⟩
    | succ j =>
      have hj : (List.replicate (len - 1) Sl.un)[j]? = some s := by simpa [lawEnv] using hj
      rw [List.getElem?_replicate] at hj
      split at hj
      · cases hj; exact .inl rfl
      · cases hj)
  rw [List.set_set] at R2
  refine ⟨gm, od, .dK kvs, R'.sub _ _ hgm, fun o' u' z => ?_, gm, _, gg, _, H0n, H0n, R2, ?_⟩
  · have z : H gm = some (.frz o' u') := z
    rcases R'.stp.fresh gm (by rw [hgm]; simp) with y | y
    · cases q : knownH H gm with
      | none => exact y q
      | some u =>
        have q2 := R'.stp.s0 _ _ q
        rw [hgm] at q2
        have q3 := known_sub _ _ q
        rw [← Option.some.inj q2] at q3
        exact nofz _ _ _ q3
    · rcases y with y | ⟨ps, y⟩
      · rw [y] at z; cases z
      · rw [y] at z; cases z
  rw [p2]
  intro v H1 H1' a1 hv
  have hv : v = .bl true := Dr.bl_inv hv
  subst hv
  exact hQ _
end
end PD
set_option Elab.async false
set_option linter.all false
set_option maxRecDepth 100000
set_option autoImplicit false
set_option maxHeartbeats 1000000
namespace PD
open PySem PySem.Spec L2

theorem glb_of {P : Program} {w : World} {K : PySem.W.Frag} {mg : Str → Option Value} {base : Heap} {S : Sig} {consts : List (Str × D)} {excs : List (Str × Str)} (X : K.In base) (G : base.Ns mainGlobals mg) (hK : KW.mk K w = S.K)
    (cl : ∀ q ∈ excs, S.cl q.1 = He.ga K q.1) (at_ : ∀ q ∈ excs, S.at_ q.1 = q.2) (mb : moreB consts excs K = true) (glo : ∀ q ∈ excs, mg q.1 = some (.ref (He.ga K q.1))) (nd : ∀ q ∈ excs, (q.1 == ("__debug__" : Str)) = false)
    (blt : ∀ x ∈ bltNames, mg x = none) (sys : ∃ o, base.get? sysModules = some o) (tx : ∀ q ∈ excs, ExcTx K q.1 q.2) : Glb P w K mg base S consts (excs.map (·.1)) := by
  unfold moreB at mb
  rw [Bool.and_eq_true] at mb
  refine ⟨congrArg KW.k hK, congrArg KW.w hK, blt, sys, fun x d h => ?_, fun c hc hp => ?_, fun c hc => ?_⟩
  · obtain ⟨u, v, h1, h2, h3, h4⟩   := constB_ok (K := ⟨K, w⟩) X G (List.all_eq_true.mp mb.1 _ (lookup_memD h))
    exact ⟨u, v, h1, h2, by rw [← hK]; exact h3, by rw [← hK]; exact h4⟩
  · obtain ⟨q, hq, rfl⟩ := List.mem_map.mp hc
    have c1 := List.all_eq_true.mp mb.2 q hq
    unfold excB at c1
    rw [Bool.and_eq_true] at c1
    obtain ⟨b0, b5⟩ := c1
    simp only [Bool.and_eq_true, decide_eq_true_eq] at b0 b5
    obtain ⟨_, _, _, b4⟩ := b0
    obtain ⟨b6, b7, b8⟩ := b5
    have e2 : q.2 = "place" := by
      rw [hp] at b8
      simpa using b8
    rw [cl q hq]
    exact ⟨⟨glo q hq, nd q hq⟩, xfB_ok b6, by rw [← e2]; exact b4, b7, by rw [at_ q hq]; exact e2⟩
  · obtain ⟨q, hq, rfl⟩ := List.mem_map.mp hc
    intro Y hP hw hYK hmg hbase hcalm hex room hgl
    have c1 := List.all_eq_true.mp mb.2 q hq
    unfold excB at c1
    rw [Bool.and_eq_true] at c1
    replace c1 := c1.1
    simp only [Bool.and_eq_true, decide_eq_true_eq] at c1
    obtain ⟨b1, b2, b3, b4⟩ := c1
    obtain ⟨⟨x, qual, par, params, p1, p2, p3, p4, scope, fd, F, Sc, v0, v1, d1, d2, bd⟩⟩ := tx q hq
    rw [← hYK] at bd b2 b3 b4
    rw [Bool.or_eq_true, Bool.or_eq_true] at b1
    rcases b1 with b1 | b1 | b1
    · have f1 := ok_init (P := Y.prog) (w := Y.w) (mg := Y.mg) (base := Y.base) F Sc v0 v1 d1 d2
      rw [← hYK] at f1
      have T := oexB_ok b1
      rw [← hYK] at T
      exact excOk_of T b2 b3 f1 room bd b4 hgl (by rw [hmg, glo q hq, hYK]) (nd q hq) (by rw [cl q hq, hYK]) (at_ q hq)
    · have f1 := ok_initG (P := Y.prog) (w := Y.w) (mg := Y.mg) (base := Y.base) (newId := "LookupError.__new__") PySem.F.store_LookupError F Sc v0 v1 d1 d2
      rw [← hYK] at f1
      have T := oegB_ok b1
      rw [← hYK] at T
      exact excOk_ofG T PySem.F.excBase_LookupError b2 b3 f1 room bd b4 hgl (by rw [hmg, glo q hq, hYK]) (nd q hq) (by rw [cl q hq, hYK]) (at_ q hq)
    · have f1 := ok_initG (P := Y.prog) (w := Y.w) (mg := Y.mg) (base := Y.base) (newId := "OverflowError.__new__") PySem.F.store_OverflowError F Sc v0 v1 d1 d2
      rw [← hYK] at f1
      have T := oegB_ok b1
      rw [← hYK] at T
      exact excOk_ofG T PySem.F.excBase_OverflowError b2 b3 f1 room bd b4 hgl (by rw [hmg, glo q hq, hYK]) (nd q hq) (by rw [cl q hq, hYK]) (at_ q hq)
/-- a def of the table, whole -/
structure DefAll (K : PySem.W.Frag) (mg : Str → Option Value) (base : Heap) (tb : List (Addr × Str)) (fns : List (Str × Nat)) (consts : List (Str × D)) (excs : List Str) (q : En × Df) : Prop where
  gl : DefGl K mg q.1
  ar : q.1.ps.length = q.2.ar
  tx : ∀ n len body, q.2 = .tx n len body → DefTx K mg base tb fns consts excs q.1 n len body
  nosp : ∀ n m, q.2 ≠ .sp n m
section
variable {K : PySem.W.Frag} {mg : Str → Option Value} {base : Heap} {tb : List (Addr × Str)} {fns : List (Str × Nat)} {consts : List (Str × D)} {excs : List Str}
theorem tabAt_of {x qual : Str} {params : Arguments} {body : List Stmt} {scope : Scope} {f : Addr} {fd : FuncData} {dvs : List V} {kws : List (Str × V)} (F : FunD K x qual params body scope dvs kws f fd) (h : ∀ c, fd.code = .ref c → ∃ P, (P, (qual ++ ".<locals>.") ++ "<lambda>") ∈ tb ∧ (∀ p ∈ tb, p.1 = P → p.2 = (qual ++ ".<locals>.") ++ "<lambda>") ∧ LamX.TabB base mg c P) :
    ∀ (dV kV doc pm cdv ct : Value) (an : Option Addr), fd = PySem.W.fnOf x qual params body scope dV kV doc pm an cdv ct → TabAt base mg tb cdv (qual ++ ".<locals>.") := by
  intro dV kV doc pm cdv ct an e
  obtain ⟨oc, od, dV2, kV2, doc2, pm2, an2, cdv2, ct2, osl, e2, lk, hcd, _, _⟩ := F.ex
  rw [e] at e2
  have ec : cdv = cdv2 := congrArg FuncData.code e2
  obtain ⟨c, hc⟩ := He.codeIn_ref hcd
  rw [← ec] at hc
  obtain ⟨P, h1, h2, h3⟩ := h c (by rw [e]; exact hc)
  exact ⟨c, P, hc, h1, h2, h3⟩
theorem defAll_of {x : Str} {params : Arguments} {body : List Stmt} {scope : Scope} {fd : FuncData} {N ps L gs : List Str} {lam : Bool} (F : FunD K x x params body scope [] [] (He.ga K x) fd) (Sc : FnScope N ps scope) (h : (cSs ⟨N, scope, fns, consts, excs, gs, lam⟩ L body).isSome = true)
    (bd : Binds K fd ps []) (glo : mg x = some (.ref (He.ga K x))) (htab : lam = true → ∀ c, fd.code = .ref c → ∃ P, (P, (x ++ ".<locals>.") ++ "<lambda>") ∈ tb ∧ (∀ p ∈ tb, p.1 = P → p.2 = (x ++ ".<locals>.") ++ "<lambda>") ∧ LamX.TabB base mg c P) :
    DefAll K mg base tb fns consts excs (⟨x, He.ga K x, fd, ps⟩, .tx ps.length N.length ((cSs ⟨N, scope, fns, consts, excs, gs, lam⟩ L body).getD [])) := by
  refine ⟨⟨glo, F.kp, bd⟩, rfl, fun n len b e => ?_, fun n m z => by cases z⟩
  cases e
  have tt := fun hl => tabAt_of F (htab hl)
  obtain ⟨oc, od, dV, kV, doc, pm, an, cdv, ct, osl, e, lk, hcd, _, _⟩ := F.ex
  subst e
  exact ⟨⟨x, x, params, body, scope, dV, kV, doc, pm, cdv, ct, oc, an, od, osl, N, L, gs, lam, rfl, lk, hcd, Sc, opt_get h, rfl, fun hl => tt hl _ _ _ _ _ _ _ rfl⟩, rfl⟩
theorem lawTx_of {x : Str} {params : Arguments} {s0 : Stmt} {s1 : List Stmt} {scope : Scope} {f : Addr} {fd : FuncData} {N ps L gs : List Str} {lam : Bool} {c0 : Sm} (F : FunD K x x params (s0 :: s1) scope [] [] f fd) (Sc : FnScope N ps scope)
    (h0 : cS ⟨N, scope, fns, consts, excs, gs, lam⟩ L s0 = some c0) (h : (cSs ⟨N, scope, fns, consts, excs, gs, lam⟩ L s1).isSome = true) (hp : ps.length = 1)
    (htab : lam = true → ∀ c, fd.code = .ref c → ∃ P, (P, (x ++ ".<locals>.") ++ "<lambda>") ∈ tb ∧ (∀ p ∈ tb, p.1 = P → p.2 = (x ++ ".<locals>.") ++ "<lambda>") ∧ LamX.TabB base mg c P) :
    LawTx K mg base tb fns consts excs ⟨x, f, fd, ps⟩ N.length c0 ((cSs ⟨N, scope, fns, consts, excs, gs, lam⟩ L s1).getD []) := by
  have tt := fun hl => tabAt_of F (htab hl)
  obtain ⟨oc, od, dV, kV, doc, pm, an, cdv, ct, osl, e, lk, hcd, _, _⟩ := F.ex
  subst e
  exact ⟨⟨x, x, params, s0, s1, scope, dV, kV, doc, pm, cdv, ct, oc, an, od, osl, N, L, gs, lam, rfl, lk, hcd, Sc, h0, opt_get h, rfl, fun hl => tt hl _ _ _ _ _ _ _ rfl⟩, hp⟩
end
/-! ### the telling, as the head tells it -/
def wdOf (ts : List Tst) (excs : List Str) (c : Str) : Option (Option Str) := if c ∈ excs then (match ts.lookup c with
  | some (w, some _) => some (some w)
  | some (_, none) => some none
  | none => none) else none
def oneB (ts : List Tst) (excs : List Str) : Bool := excs.all fun c => !decide (c = "") && match ts.filter fun q => decide (c = q.1) with
  | [q] => (match q.2.2 with
    | some _ => decide (wdOf ts excs c = some (some q.2.1))
    | none => decide (wdOf ts excs c = some none) && decide (q.2.1 = "question"))
  | _ => false
theorem one_of {ts : List Tst} {excs : List Str} (h : oneB ts excs = true) : ∀ c ∈ excs, ∀ d, ∃ r, saidOf (wdOf ts excs) c d = some r ∧ (ts.filter fun q => decide (c = q.1)).map (fun q => hitD q.2.1 q.2.2 d) = [r] := by
  intro c hc d
  have h1 := List.all_eq_true.mp h c hc
  rw [Bool.and_eq_true, Bool.not_eq_true', decide_eq_false_iff_not] at h1
  obtain ⟨h0, h1⟩ := h1
  split at h1
  · rename_i q e
    rw [e]
    split at h1
    · rename_i x e2
      have e3 := of_decide_eq_true h1
      refine ⟨.tuple [.str q.2.1, d], by unfold saidOf; rw [if_neg h0, e3], ?_⟩
      simp [hitD, e2]
    · rename_i e2
      rw [Bool.and_eq_true] at h1
      have e3 := of_decide_eq_true h1.1
      have e4 := of_decide_eq_true h1.2
      refine ⟨.tuple [.str "question"], by unfold saidOf; rw [if_neg h0, e3], ?_⟩
      simp [hitD, e2, e4]
  · cases h1
def atOf (excs : List (Str × Str)) (c : Str) : Str := (excs.lookup c).getD Str.empty
def saidB (excs : List (Str × Str)) (ts : List Tst) (K : PySem.W.Frag) : Bool := excs.all fun e => xvB K (He.ga K e.1) && (decide (PySem.W.exmAny K (.ref (He.ga K e.1)) [.ref (He.ga K "JobError"), .ref (He.ga K "MissError"), .ref (He.ga K "TooMany")] = some true) &&
  ts.all fun q => decide (PySem.W.kitOne K (.ref (He.ga K e.1)) (.ref (He.ga K q.1)) = some (decide (e.1 = q.1))) && (!decide (e.1 = q.1) || (match q.2.2 with
    | some x => decide (PySem.W.findIn K (.ref (He.ga K e.1)) x = some none) && decide (x = atOf excs e.1)
    | none => true)))
theorem saidDef_of {K : PySem.W.Frag} {mg : Str → Option Value} {S : Sig} {excs : List (Str × Str)} {ts : List Tst} {params : Arguments} {bg : List Stmt} {sg : Scope} {fd : FuncData} (hcl : S.cl = He.ga K) (hat : S.at_ = atOf excs) (F : FunD K "_law_said" "_law_said" params bg sg [] [] (He.ga K "_law_said") fd)
    (glo : mg "_law_said" = some (.ref (He.ga K "_law_said"))) (bd : Binds K fd ["call"] []) (Sc : FnScope ["call", "caught", "found", "e"] ["call"] sg) (hb : SaidBody ts bg) (loc : (["call", "caught", "found", "e"] : List Str).all (lk sg) = true)
    (glb : (("isinstance" : Str) :: "len" :: "JobError" :: "MissError" :: "TooMany" :: ts.map (·.1)).all (fun x => glB sg x && !dbg x) = true) (cls : ∀ x ∈ ("JobError" : Str) :: "MissError" :: "TooMany" :: ts.map (·.1), mg x = some (.ref (He.ga K x)))
    (sb : saidB excs ts K = true) (one : oneB ts (excs.map (·.1)) = true) (few : ts.length < 50) : SaidDef K mg S (excs.map (·.1)) ts (wdOf ts (excs.map (·.1))) ∧ ∀ c : Str, c ≠ "" → wdOf ts (excs.map (·.1)) c ≠ none → c ∈ excs.map (·.1) := by
  have facts : ∀ c ∈ excs.map (·.1), ∃ e ∈ excs, e.1 = c := fun c hc => by
    obtain ⟨e, he, rfl⟩ := List.mem_map.mp hc
    exact ⟨e, he, rfl⟩
  have of : ∀ e ∈ excs, _ := fun e he => List.all_eq_true.mp sb e he
  simp only [Bool.and_eq_true, decide_eq_true_eq] at of
  refine ⟨⟨?_, ?_, ?_, ?_, ?_, ?_, one_of one, few⟩, fun c _ hc => ?_⟩
  · obtain ⟨oc, od, dV, kV, doc, pm, an, cdv, ct, osl, e, lk, hcd, _, _⟩ := F.ex
    subst e
    exact ⟨_, params, bg, sg, dV, kV, doc, pm, cdv, ct, oc, an, od, osl, glo, F.kp, lk, hcd, bd, Sc, hb, loc, glb⟩
  · intro x hx; rw [hcl]; exact cls x hx
  · intro c hc
    obtain ⟨e, he, rfl⟩ := facts c hc
    rw [hcl]; exact xvB_ok (of e he).1
  · intro c hc
    obtain ⟨e, he, rfl⟩ := facts c hc
    rw [hcl]; exact (of e he).2.1
  · intro c hc q hq
    obtain ⟨e, he, rfl⟩ := facts c hc
    have z := List.all_eq_true.mp (of e he).2.2 q hq
    rw [Bool.and_eq_true] at z
    rw [hcl]; exact of_decide_eq_true z.1
  · intro c hc q hq ec x hx
    obtain ⟨e, he, rfl⟩ := facts c hc
    have z := List.all_eq_true.mp (of e he).2.2 q hq
    rw [Bool.and_eq_true, Bool.or_eq_true] at z
    rcases z.2 with y | y
    · rw [decide_eq_true ec] at y; cases y
    · rw [hx] at y
      simp only [Bool.and_eq_true, decide_eq_true_eq] at y
      rw [hcl, hat]
      exact ⟨y.2, y.1⟩
  · unfold wdOf at hc
    split at hc
    · assumption
    · exact absurd rfl hc
/-! ### the telling with one clause a class -/
def wdB (wr : Bool) (ts : List Tst) (excs : List Str) (c : Str) : Option (Option Str) := if c = "" then (if wr then some none else none) else wdOf ts excs c
def oneBB (ts : List Tst) : Bool := ts.all fun q => q.2.2.isSome || decide (q.2.1 = "question")
def saidBB (excs : List (Str × Str)) (ts : List Tst) (K : PySem.W.Frag) : Bool := ts.all (fun q => xfB K (He.ga K q.1) && (match q.2.2 with
    | some x => decide (PySem.W.findIn K (.ref (He.ga K q.1)) x = some none) && decide (x = atOf excs q.1)
    | none => true)) && excs.all fun e => ts.all fun q => decide (PySem.W.exmOne K (.ref (He.ga K e.1)) (.ref (He.ga K q.1)) = some (decide (e.1 = q.1)))
theorem find_lk {α : Type} : ∀ {ts : List (Str × α)} {c : Str} {p : α}, ts.lookup c = some p → ts.find? (fun q => decide (c = q.1)) = some (c, p)
  | [], _, _, h => by cases h
  | (y, e) :: r, c, p, h => by
    rw [List.lookup_cons] at h
    by_cases z : c = y
    · subst z
      rw [beq_self_eq_true] at h
      cases h
      exact List.find?_cons_of_pos (by simp)
    · rw [beq_eq_false_iff_ne.mpr z] at h
      rw [List.find?_cons_of_neg (by simpa using z)]
      exact find_lk h
theorem saidDefB_of {wr : Bool} {K : PySem.W.Frag} {mg : Str → Option Value} {S : Sig} {excs : List (Str × Str)} {ts : List Tst} {params : Arguments} {bg : List Stmt} {sg : Scope} {fd : FuncData} (hcl : S.cl = He.ga K) (hat : S.at_ = atOf excs) (F : FunD K "_law_said" "_law_said" params bg sg [] [] (He.ga K "_law_said") fd)
    (glo : mg "_law_said" = some (.ref (He.ga K "_law_said"))) (bd : Binds K fd ["call"] []) (Sc : FnScope (nmB wr) ["call"] sg) (hb : SaidB wr ts bg) (loc : (nmB wr).all (lk sg) = true)
    (glb : (ts.map (·.1)).all (fun x => glB sg x && !dbg x) = true) (cls : ∀ x ∈ ts.map (·.1), mg x = some (.ref (He.ga K x)))
    (sb : saidBB excs ts K = true) (one : oneBB ts = true) : SaidDefB K mg S (excs.map (·.1)) ts (wdB wr ts (excs.map (·.1))) ∧ ∀ c : Str, c ≠ "" → wdB wr ts (excs.map (·.1)) c ≠ none → c ∈ excs.map (·.1) := by
  unfold saidBB at sb
  rw [Bool.and_eq_true] at sb
  have s1 : ∀ q ∈ ts, _ := fun q hq => List.all_eq_true.mp sb.1 q hq
  simp only [Bool.and_eq_true] at s1
  refine ⟨⟨?_, ?_, ?_, ?_, ?_, ?_⟩, fun c h0 hc => ?_⟩
  · obtain ⟨oc, od, dV, kV, doc, pm, an, cdv, ct, osl, e, lk, hcd, _, _⟩ := F.ex
    subst e
    exact ⟨wr, _, params, bg, sg, dV, kV, doc, pm, cdv, ct, oc, an, od, osl, glo, F.kp, lk, hcd, bd, Sc, hb, loc, glb, by unfold wdB; rw [if_pos rfl]⟩
  · intro x hx; rw [hcl]; exact cls x hx
  · intro q hq; rw [hcl]; exact xfB_ok (s1 q hq).1
  · intro c hc q hq
    obtain ⟨e, he, rfl⟩ := List.mem_map.mp hc
    have z := List.all_eq_true.mp (List.all_eq_true.mp sb.2 e he) q hq
    rw [hcl]; exact of_decide_eq_true z
  · intro q hq x hx
    have z := (s1 q hq).2
    rw [hx] at z
    simp only [Bool.and_eq_true, decide_eq_true_eq] at z
    rw [hcl, hat]
    exact ⟨z.2, z.1⟩
  · intro c hc d r e
    unfold saidOf at e
    split at e
    · cases e
    · rename_i h0
      unfold wdB at e
      rw [if_neg h0] at e
      unfold wdOf at e
      rw [if_pos hc] at e
      cases l : ts.lookup c with
      | none => rw [l] at e; cases e
      | some p =>
        have fd := find_lk l
        obtain ⟨w, a⟩ := p
        rw [l] at e
        refine ⟨_, fd, ?_⟩
        cases a with
        | some a => cases e; rfl
        | none =>
          cases e
          have z := List.all_eq_true.mp one _ (List.mem_of_find?_eq_some fd)
          simp only [Option.isSome_none, Bool.false_or, decide_eq_true_eq] at z
          show PyData.tuple [PyData.str w] = _
          rw [z]
  · unfold wdB at hc
    rw [if_neg h0] at hc
    unfold wdOf at hc
    split at hc
    · assumption
    · exact absurd rfl hc
end PD
set_option Elab.async false
set_option linter.all false
set_option maxRecDepth 100000
set_option autoImplicit false
set_option maxHeartbeats 1000000
namespace PD
open PySem PySem.Spec L2

def qn (x : Str) : Str := (x ++ ".<locals>.") ++ "<lambda>"
/-- the tables of the defs that have a lambda -/
def tabT (K : PySem.W.Frag) (tfs : List Str) : List (Addr × Str) := tfs.map fun x => ((He.cT K (x, none)).2, qn x)
def tabC (K : PySem.W.Frag) (tfs : List Str) : List (Addr × Addr) := tfs.map fun x => He.cT K (x, none)
theorem map_inj {α β : Type} {f : α → β} : ∀ {l : List α}, (l.map f).Nodup → ∀ x ∈ l, ∀ y ∈ l, f x = f y → x = y
  | [], _, x, hx, _, _, _ => by cases hx
  | a :: l, h, x, hx, y, hy, e => by
    rw [List.map_cons, List.nodup_cons] at h
    rcases List.mem_cons.mp hx with h1 | h1
    · rcases List.mem_cons.mp hy with h2 | h2
      · rw [h1, h2]
      · rw [h1] at e
        exact absurd (List.mem_map.mpr ⟨y, h2, e.symm⟩) h.1
    · rcases List.mem_cons.mp hy with h2 | h2
      · rw [h2] at e
        exact absurd (List.mem_map.mpr ⟨x, h1, e⟩) h.1
      · exact map_inj h.2 x h1 y h2 e
section
variable {K : PySem.W.Frag} {mg : Str → Option Value} {base : Heap} {tfs : List Str}
theorem tabs_of (nd : (tfs.map fun x => (He.cT K (x, none)).2).Nodup) (TB : ∀ p ∈ tabC K tfs, LamX.TabB base mg p.1 p.2) {x : Str} (hx : x ∈ tfs) {params : Arguments} {body : List Stmt} {scope : Scope} {fd : FuncData} {dvs : List V} {kws : List (Str × V)}
    (F : FunD K x x params body scope dvs kws (He.ga K x) fd) : ∀ c, fd.code = .ref c → ∃ P, (P, (x ++ ".<locals>.") ++ "<lambda>") ∈ tabT K tfs ∧ (∀ p ∈ tabT K tfs, p.1 = P → p.2 = (x ++ ".<locals>.") ++ "<lambda>") ∧ LamX.TabB base mg c P := by
  intro c hc
  obtain ⟨oc, od, dV, kV, doc, pm, an, cdv, ct, osl, e, lk, hcd, _, _⟩ := F.ex
  have ec : He.codeOf K (x, none) = c := He.codeOf_eq (p := (x, none)) lk hc
  refine ⟨(He.cT K (x, none)).2, List.mem_map.mpr ⟨x, hx, rfl⟩, fun p hp e2 => ?_, ?_⟩
  · obtain ⟨y, hy, rfl⟩ := List.mem_map.mp hp
    have := map_inj nd y hy x hx e2
    subst this
    rfl
  · have z := TB (He.cT K (x, none)) (List.mem_map.mpr ⟨x, hx, rfl⟩)
    have e3 : (He.cT K (x, none)).1 = c := ec
    rw [e3] at z
    exact z
theorem lawG_of {l : PySem.W.OpenLaw} {w : World} {CX : CXT} {k : Nat} {fa : Addr} {h : Heap} {fd : FuncData} {Pn : List Int → Prop} (inK : K.In h) (sysD : SysOk h) (empty : ∀ x ∈ tfs, h.get? (He.cT K (x, none)).2 = some tab0) (out : ∀ x ∈ tfs, K.lookup (He.cT K (x, none)).2 = none)
    (hd : ∀ x ∈ tfs, PySem.W.CodeHd h (He.cT K (x, none)).1 (He.cT K (x, none)).2) (bd : ∀ (s : Shared) (u : Value), BindsTo s fd ⟨[u], []⟩ [("script", u)]) (hP : ∀ ns : List Int, ns.length ≤ 63 → Pn ns)
    (F : ∀ base : Heap, K.In base → base.Ns mainGlobals mg → (∃ o, base.get? sysModules = some o) → (∀ p ∈ tabC K tfs, LamX.TabB base mg p.1 p.2) → FnG l.prog w K mg base CX k fa fd ["script"] (spLaw K (tabT K tfs) Pn)) : LawG l w K CX k 63 "script" mg fa h := by
  have mem : ∀ p ∈ tabC K tfs, ∃ x ∈ tfs, p = He.cT K (x, none) := fun p hp => by
    obtain ⟨x, hx, rfl⟩ := List.mem_map.mp hp
    exact ⟨x, hx, rfl⟩
  refine ⟨fd, tabC K tfs, spLaw K (tabT K tfs) Pn, fun p hp => ?_, fun p hp => ?_, fun p hp => ?_, bd, fun H a ns hl _ ht sq nofz => ?_, sysD, F⟩
  · obtain ⟨x, hx, rfl⟩ := mem p hp; exact empty x hx
  · obtain ⟨x, hx, rfl⟩ := mem p hp; exact out x hx
  · obtain ⟨x, hx, rfl⟩ := mem p hp; exact hd x hx
  · refine ⟨a, ns, rfl, sq, hP ns hl, fun p hp => ?_, nofz, fun _ => rfl⟩
    obtain ⟨x, hx, rfl⟩ := List.mem_map.mp hp
    exact LamX.TabS.nil (ht _ (List.mem_map.mpr ⟨x, hx, rfl⟩))
end
end PD
set_option Elab.async false
set_option linter.all false
set_option maxRecDepth 100000
set_option autoImplicit false
set_option maxHeartbeats 1000000
namespace PD
open PySem PySem.Spec L2
section
variable {P : Program} {w : World} {K : PySem.W.Frag} {mg : Str → Option Value} {base : Heap} {S : Sig} {consts : List (Str × D)} {excs : List Str} {tst : List Tst} {wd : Str → Option (Option Str)} {nW : Nat}
/-- a law that draws nothing -/
theorem fnG_law0 {T : List (En × Df)} (hgm : S.gm = none) (B : Glb P w K mg base S consts excs) (hG : ∀ q ∈ T, DefGl K mg q.1) {f : Nat}
    (ih : ∀ i q, T[i]? = some q → FnG P w K mg base (L2.CX P w) (lv f) q.1.fa q.1.fd q.1.ps (spOf S q.2.ar (callF wd nW (T.map (·.2)) f i)))
    {e : En} {len : Nat} {body : List Sm} (D : DefTx K mg base S.T (fnsOf T) consts excs e 1 len body) (hsd : S.T ≠ [] → SaidD K mg S excs tst wd ∧ ∀ c : Str, c ≠ "" → wd c ≠ none → c ∈ excs) {Pn : List Int → Prop}
    (pure : ∀ ns, Pn ns → ∀ g, ∃ g2, exSs ⟨callF wd nW (T.map (·.2)) f, wd⟩ nW body (lawEnv len ns) g = .ok (.rt (.bool true)) g2) :
    FnG P w K mg base (L2.CX P w) (lv f + 3) e.fa e.fd e.ps (spLaw K S.T Pn) := by
  have F := fnG_tx B hG ih D hsd
  have conv : ∀ {vs H Q E}, spLaw K S.T Pn vs H Q E → spOf S 1 (fun xs => (M.ofO (xs.mapM slOf)).bd fun sl => (exSs ⟨callF wd nW (T.map (·.2)) f, wd⟩ nW body (sl ++ List.replicate (len - 1) .un)).bd endD) vs H Q E := by
    intro vs H Q E h
    obtain ⟨a, ns, rfl, sq, hP, tabs, _, hQ⟩ := h
    refine ⟨[.sc ns], ⟨[], 0, 0⟩, knownH H, rfl, rfl, known_sub, fun p z => (by rw [hgm] at z; cases z), fun b ps z => ?_, fun p z => (by rw [hgm] at z; cases z), tabs, .cons ⟨a, rfl, by rw [← B.hK]; exact known_sq sq⟩ .nil, ?_⟩
    · unfold knownH at z
      split at z
      · cases z
      · rename_i h; exact h ps z
    · obtain ⟨g2, e1⟩ := pure ns hP ⟨[], 0, 0⟩
      show Pst S _ [] (knownH H) H (relR S) Q (((exSs ⟨callF wd nW (T.map (·.2)) f, wd⟩ nW body (lawEnv len ns)).bd endD) ⟨[], 0, 0⟩)
      unfold M.bd
      rw [e1]
      intro v H1 H1' a1 hv
      have hv : v = .bl true := Dr.bl_inv hv
      subst hv
      exact hQ _
  exact ⟨fun vs H Q E h => F.len vs H Q E (conv h), fun A outer s H args us vs Q E hr hgd e0 hb r h => F.run A outer s H args us vs Q E hr hgd e0 hb r (conv h)⟩
end
end PD
set_option Elab.async false
set_option linter.all false
set_option maxRecDepth 100000
set_option autoImplicit false
set_option maxHeartbeats 1000000
namespace PD
open PySem PySem.Spec L2

/-! ### to reckon with the readings -/
def Tot {α : Type} (m : M α) (g : Gen) (Q : α → Gen → Prop) : Prop := ∃ a g', m g = .ok a g' ∧ Q a g'
section
variable {α β : Type} {m : M α} {k : α → M β} {g : Gen}
theorem Tot.bd {Q : β → Gen → Prop} (h : Tot m g fun a g' => Tot (k a) g' Q) : Tot (m.bd k) g Q := by
  obtain ⟨a, g1, e1, b, g2, e2, q⟩ := h
  exact ⟨b, g2, by unfold M.bd; rw [e1]; exact e2, q⟩
theorem Tot.pu {a : α} {Q : α → Gen → Prop} (h : Q a g) : Tot (M.pu a) g Q := ⟨a, g, rfl, h⟩
theorem Tot.mono {Q Q' : α → Gen → Prop} (h : Tot m g Q) (w : ∀ a g', Q a g' → Q' a g') : Tot m g Q' := by
  obtain ⟨a, g1, e1, q⟩ := h
  exact ⟨a, g1, e1, w _ _ q⟩
end
theorem ofO_some {α : Type} {a : α} : M.ofO (some a) = M.pu a := rfl
theorem get_fz {env : Env} {i : Nat} {d : D} (h : env[i]? = some (.fz d)) : env.get i = M.pu (.d d) := by unfold Env.get; rw [h]
theorem get_gn {env : Env} {i : Nat} (h : env[i]? = some .gn) : env.get i = M.pu .gn := by unfold Env.get; rw [h]
theorem bf_one {f : Bf} {x : D} : bfD f [.d x] = bf1 f x := by
  unfold bfD
  cases f <;> rfl
def isStr : D → Bool
  | .str _ => true
  | _ => false
theorem isi_str (x : D) : isiD ["str"] x = .bool (isStr x) := by
  cases x <;> rfl
theorem isi_tup (x : D) : isiD ["tuple"] x = .bool (isTupD x) := by
  cases x <;> rfl
def wordB (d : D) (ws : List Str) : Bool := match d with
  | .str x => decide (x ∈ ws)
  | _ => false
theorem flat_strs : ∀ ws : List Str, (ws.map PyData.str).all isFlat = true
  | [] => rfl
  | w :: ws => by simp [isFlat]
theorem inD_strs (x : Str) : ∀ ws : List Str, inD (.str x) (ws.map .str) = decide (x ∈ ws)
  | [] => by simp [inD]
  | w :: ws => by
    simp only [List.map_cons, inD, inD_strs x ws, PyData.eqv, List.mem_cons]
    by_cases h : w = x
    · subst h; simp
    · have h2 : ¬ x = w := fun z => h z.symm
      simp [h, h2]
theorem mem_strs (x : Str) (ws : List Str) : memD (.str x) (.tuple (ws.map .str)) = some (decide (x ∈ ws)) := by
  unfold memD
  simp only [flat_strs, isFlat, Bool.and_self, if_true, inD_strs]
theorem callF_tx {w : Str → Option (Option Str)} {nW : Nat} {P : List Df} {f i n len : Nat} {body : List Sm} {xs : List Vl} (h : P[i]? = some (.tx n len body)) :
    callF w nW P (f + 1) i xs = (M.ofO (xs.mapM slOf)).bd fun sl => (exSs ⟨callF w nW P f, w⟩ nW body (sl ++ List.replicate (len - n) Sl.un)).bd endD := by
  show (match P[i]? with
    | some (.tx n len body) => (M.ofO (xs.mapM slOf)).bd fun sl => (exSs ⟨callF w nW P f, w⟩ nW body (sl ++ List.replicate (len - n) Sl.un)).bd endD
    | some (.sp _ m) => m xs
    | none => .stuck) = _
  rw [h]
end PD
namespace PD
open PySem PySem.Spec L2
theorem mapB_pu {f : D → M (Option D)} {h : D → Option D} : ∀ {ds : List D}, (∀ d ∈ ds, f d = M.pu (h d)) → mapB f ds = M.pu (ds.filterMap h)
  | [], _ => rfl
  | d :: ds, H => by
    rw [mapB, H d (by simp), M.pu_bd, mapB_pu (fun x hx => H x (by simp [hx])), M.pu_bd]
    cases e : h d <;> simp [e]
theorem filterMap_some {α β : Type} (h : α → β) : ∀ ds : List α, ds.filterMap (fun d => some (h d)) = ds.map h
  | [] => rfl
  | d :: ds => by simp
theorem mapM_bools (p : D → Bool) : ∀ xs : List D, (xs.map fun d => PyData.bool (p d)).mapM boolOf = some (xs.map p)
  | [] => rfl
  | x :: xs => by
    rw [List.map_cons, List.mapM_cons, mapM_bools p xs]
    rfl
theorem all_bools (p : D → Bool) (xs : List D) : allD (.list (xs.map fun d => .bool (p d))) = some (.bool (xs.all p)) := by
  show ((xs.map fun d => PyData.bool (p d)).mapM boolOf).map (fun bs => PyData.bool (bs.all id)) = _
  rw [mapM_bools]
  simp [List.all_map]
def wordsB (lo hi : Int) (ws : List Str) (d : D) : Bool := match d with
  | .tuple xs => decide (lo ≤ xs.length ∧ xs.length ≤ hi) && xs.all fun x => wordB x ws
  | _ => false
def lcF (F : Fns) (env : Env) (tg : Tg) (t : Option E) (e : E) (w : List Nat) (d : D) : M (Option D) := M.calm ((M.ofO (setTg (wipeE env w) tg d)).bd fun env' => (evOT F t env').bd fun k =>
      if k then (ev F e env').bd fun y => (solid y).bd fun y => .pu (some y) else .pu none)
theorem ev_lc {F : Fns} {env : Env} {tg : Tg} {it : I} {t : Option E} {e : E} {w : List Nat} {ds ys : List D} (hi : evI F it env = M.pu ds) (hm : mapB (lcF F env tg t e w) ds = M.pu ys) (hl : ys.length ≤ sizeLine) : ev F (.lc tg it t e w) env = M.pu (.d (.list ys)) := by
  have h : ev F (.lc tg it t e w) env = (evI F it env).bd fun ds => (mapB (lcF F env tg t e w) ds).bd fun ys => if ys.length ≤ sizeLine then .pu (.d (.list ys)) else .stuck := by
    simp only [ev]; rfl
  rw [h, hi, M.pu_bd, hm, M.pu_bd, if_pos hl]
theorem ev_lcT {F : Fns} {env : Env} {tg : Tg} {it : I} {t : Option E} {e : E} {w : List Nat} {g : Gen} {Q : Vl → Gen → Prop} (h : Tot (evI F it env) g fun ds g1 => Tot (mapB (lcF F env tg t e w) ds) g1 fun ys g2 => ys.length ≤ sizeLine ∧ Q (.d (.list ys)) g2) : Tot (ev F (.lc tg it t e w) env) g Q := by
  have h1 : ev F (.lc tg it t e w) env = (evI F it env).bd fun ds => (mapB (lcF F env tg t e w) ds).bd fun ys => if ys.length ≤ sizeLine then .pu (.d (.list ys)) else .stuck := by
    simp only [ev]; rfl
  rw [h1]
  refine Tot.bd (h.mono fun ds g1 h2 => Tot.bd (h2.mono fun ys g2 h3 => ?_))
  rw [if_pos h3.1]
  exact Tot.pu h3.2
section
variable {F : Fns} {env : Env}
theorem evx_c (x : D) : ev F (.c x) env = .pu (.d x) := by simp only [ev]
theorem evx_v (i : Nat) : ev F (.v i) env = env.get i := by simp only [ev]
theorem evx_bin (op : Operator) (a b : E) : ev F (.bin op a b) env = (ev F a env).bd fun x => (ev F b env).bd fun y => .ofO ((binD op x y).map .d) := by simp only [ev]
theorem evx_cmp (op : CmpOp) (a b : E) : ev F (.cmp op a b) env = (ev F a env).bd fun x => (ev F b env).bd fun y => .ofO ((cmpD op x y).map fun b => .d (.bool b)) := by simp only [ev]
theorem evx_chain (op op' : CmpOp) (a b c : E) : ev F (.chain op op' a b c) env = (ev F a env).bd fun x => (ev F b env).bd fun y => (M.ofO (cmpD op x y)).bd fun k => if k then (ev F c env).bd fun z => .ofO ((cmpD op' y z).map fun b => .d (.bool b)) else .pu (.d (.bool false)) := by simp only [ev]
theorem evx_and (a b : E) : ev F (.and a b) env = (ev F a env).bd fun x => (M.ofO ((asD x).bind truD)).bd fun k => if k then ev F b env else .pu x := by simp only [ev]
theorem evx_or (a b : E) : ev F (.or a b) env = (ev F a env).bd fun x => (M.ofO ((asD x).bind truD)).bd fun k => if k then .pu x else ev F b env := by simp only [ev]
theorem evx_not (a : E) : ev F (.not a) env = (ev F a env).bd fun x => (M.ofO ((asD x).bind truD)).bd fun k => .pu (.d (.bool !k)) := by simp only [ev]
theorem evx_tup (es : List E) : ev F (.tup es) env = (evs F es env).bd fun xs => (M.ofO (xs.mapM dOf)).bd fun ds => if ds.length ≤ sizeLine then .pu (.d (.tuple ds)) else .stuck := by simp only [ev]
theorem evx_lst (es : List E) : ev F (.lst es) env = (evs F es env).bd fun xs => (M.ofO (xs.mapM dOf)).bd fun ds => if ds.length ≤ sizeLine then .pu (.d (.list ds)) else .stuck := by simp only [ev]
theorem evx_ix (a b : E) : ev F (.ix a b) env = (ev F a env).bd fun x => (ev F b env).bd fun y => .ofO ((ixD x y).map .d) := by simp only [ev]
theorem evx_sl (a : E) (lo hi : Option E) : ev F (.sl a lo hi) env = (ev F a env).bd fun x => (evO F lo env).bd fun l => (evO F hi env).bd fun h => .ofO ((slD x l h).map .d) := by simp only [ev]
theorem evx_bf (f : Bf) (es : List E) : ev F (.bf f es) env = (evs F es env).bd fun xs => .ofO ((bfD f xs).map .d) := by simp only [ev]
theorem evx_call (f : Nat) (es : List E) : ev F (.call f es) env = (evs F es env).bd fun xs => (F.call f xs).bd fun d => .pu (.d d) := by simp only [ev]
theorem evx_gix (i : Nat) (k : Str) : ev F (.gix i k) env = gxD env[i]? k := by simp only [ev]
theorem evsx_nil : evs F [] env = .pu [] := by simp only [evs]
theorem evsx_cons (e : E) (es : List E) : evs F (e :: es) env = (ev F e env).bd fun x => (evs F es env).bd fun xs => .pu (x :: xs) := by simp only [evs]
end
section
variable {F : Fns} {env : PD.Env} {n : Nat}
theorem exsx_nil : exSs F n [] env = .pu (.nx env) := by simp only [exSs]
theorem exsx_cons (s : Sm) (r : List Sm) : exSs F n (s :: r) env = (exS F n s env).bd fun x => match x with
    | .nx e => exSs F n r e
    | .rt d => .pu (.rt d)
    | .bk e => .pu (.bk e)
    | .ct e => .pu (.ct e) := by
  simp only [exSs] <;> congr 1
theorem exx_asg (t : Tg) (e : E) : exS F n (.asg t e) env = (ev F e env).bd fun x => (solid x).bd fun d => (M.ofO (setTg env t d)).bd fun env' => .pu (.nx env') := by simp only [exS]
theorem exx_par (is : List Nat) (es : List E) : exS F n (.par is es) env = (evs F es env).bd fun xs => (M.ofO (xs.mapM dOf)).bd fun ds => (M.ofO (setTgs env is ds)).bd fun env' => .pu (.nx env') := by simp only [exS]
theorem exx_ret (e : E) : exS F n (.ret e) env = (ev F e env).bd fun x => (solid x).bd fun d => .pu (.rt d) := by simp only [exS]
theorem exx_retN : exS F n .retN env = .pu (.rt .none) := by simp only [exS]
theorem exx_iff (t : E) (a b : List Sm) : exS F n (.iff t a b) env = (evT F t env).bd fun k => if k then exSs F n a env else exSs F n b env := by simp only [exS]
theorem exx_for (tg : Tg) (it : I) (body : List Sm) : exS F n (.for_ tg it body) env = (evJ F it env).bd fun ds => forB tg (exSs F n body) ds env := by simp only [exS]
theorem exx_whl (t : E) (body : List Sm) : exS F n (.whl t body) env = whB (evT F t) (exSs F n body) n env := by simp only [exS]
theorem exx_raise (c : Str) (e : E) : exS F n (.raise c e) env = (ev F e env).bd fun x => (solid x).bd fun d => M.raise c d := by simp only [exS]
theorem exx_gput (i : Nat) (k : Str) (e : E) : exS F n (.gput i k e) env = (ev F e env).bd fun x => (solid x).bd fun d => gpD env[i]? k d env := by simp only [exS]
end
theorem evx_ite {F : Fns} {env : PD.Env} (t a b : E) : ev F (.ite t a b) env = (evT F t env).bd fun k => if k then ev F a env else ev F b env := by simp only [ev]
end PD
set_option Elab.async false
set_option linter.all false
set_option maxRecDepth 100000
set_option maxHeartbeats 0
namespace Kk28
open PySem PySem.Spec L2 PD
abbrev PR : Program := PySem.Challenge.pw_frontjobs_k28_whole_mends
def top (i : Nat) : Stmt := PR.main.body.getD i (.Pass ⟨0, 0, 0, 0⟩)
def inCls (s : Stmt) : Stmt := match s with
  | .ClassDef _ _ _ body _ _ _ _ _ _ _ => body.getD 0 (.Pass ⟨0, 0, 0, 0⟩)
  | s => s
def dd (x q : Str) (a : Str × Option Str) (s : Stmt) : He.DefD := ⟨a, x, q, defArgs s, defBody s, defScope s, [], []⟩
def consts : List (Str × D) := [("ACTS", .tuple [.str "group", .str "front", .str "read", .str "write", .str "raw", .str "plain", .str "hold", .str "again"]), ("STEPS", .tuple [.str "group", .str "give", .str "go", .str "wait", .str "listen", .str "take", .str "plain"]), ("SCRIPTS", .tuple [.str "fore", .str "back", .str "front", .str "behind"]), ("READING", .tuple [.str "stop", .str "fail", .str "wait"]), ("LETTING", .tuple [.str "go", .str "stop"]), ("MOST_KINDS", .int (3)), ("MOST_ACTS", .int (5)), ("MOST_STEPS", .int (6))]
def excs : List (Str × Str) := [("BadSetup", "place")]
def fn : List He.DefD := [dd "is_word" "is_word" ("is_word", none) (top 12),
  dd "is_tuple" "is_tuple" ("is_tuple", none) (top 13),
  dd "is_kind" "is_kind" ("is_kind", none) (top 14),
  dd "is_script" "is_script" ("is_script", none) (top 15),
  dd "are_rules" "are_rules" ("are_rules", none) (top 16),
  dd "kinds_fault" "kinds_fault" ("kinds_fault", none) (top 17),
  dd "shell_fault" "shell_fault" ("shell_fault", none) (top 18),
  dd "setup_fault" "setup_fault" ("setup_fault", none) (top 19),
  dd "is_setup" "is_setup" ("is_setup", none) (top 20),
  dd "need_setup" "need_setup" ("need_setup", none) (top 21),
  dd "changed_scripts" "changed_scripts" ("changed_scripts", none) (top 23),
  dd "mends" "mends" ("mends", none) (top 24),
  dd "_law_begun" "_law_begun" ("_law_begun", none) (top 26),
  dd "_law_draw" "_law_draw" ("_law_draw", none) (top 27),
  dd "_law_of" "_law_of" ("_law_of", none) (top 28),
  dd "_law_some" "_law_some" ("_law_some", none) (top 29),
  dd "_law_setup" "_law_setup" ("_law_setup", none) (top 30),
  dd "_law_mends" "_law_mends" ("_law_mends", none) (top 31),
  dd "_law_refused" "_law_refused" ("_law_refused", none) (top 32),
  dd "law" "law" ("law", none) (top 33),
  dd "__init__" "BadSetup.__init__" ("BadSetup", some "__init__") (inCls (top 2))]
def fa : List He.Fa := [.glo "is_word", .glo "is_tuple", .glo "is_kind", .glo "is_script", .glo "are_rules", .glo "kinds_fault", .glo "shell_fault", .glo "setup_fault", .glo "is_setup", .glo "need_setup", .glo "changed_scripts", .glo "mends", .glo "_law_begun", .glo "_law_draw", .glo "_law_of", .glo "_law_some", .glo "_law_setup", .glo "_law_mends", .glo "_law_refused", .glo "law", .glo "BadSetup", .free "len", .free "tuple", .free "list", .free "repr", .free "int", .free "all", .free "min", .free "range", .free "enumerate", .free "isinstance", .free "str", .free "bool", .free "sorted", .free "set", .free "dict"]
def loose0 : List Str := ["JobError", "BadSetup", "ACTS", "STEPS", "SCRIPTS", "READING", "LETTING", "MOST_KINDS", "MOST_ACTS", "MOST_STEPS", "is_word", "is_tuple", "is_kind", "is_script", "are_rules", "kinds_fault", "shell_fault", "setup_fault", "is_setup", "need_setup", "changed_scripts", "mends", "_law_begun", "_law_draw", "_law_of", "_law_some", "_law_setup", "_law_mends", "_law_refused"]
def loose : List Str := loose0
def lawI : Nat := 33
def fns : List (Str × Nat) := [(("is_word" : Str), 2), (("is_tuple" : Str), 3), (("is_kind" : Str), 1), (("is_script" : Str), 1), (("are_rules" : Str), 1), (("kinds_fault" : Str), 1), (("shell_fault" : Str), 1), (("setup_fault" : Str), 1), (("is_setup" : Str), 1), (("need_setup" : Str), 1), (("changed_scripts" : Str), 1), (("mends" : Str), 1), (("_law_begun" : Str), 1), (("_law_draw" : Str), 2), (("_law_of" : Str), 2), (("_law_some" : Str), 4), (("_law_setup" : Str), 4), (("_law_mends" : Str), 1), (("_law_refused" : Str), 1)]
def excN : List Str := excs.map (·.1)
def c_is_word : Cfg := ⟨["thing", "words"], defScope (top 12), fns, consts, excN, [], false⟩
def b_is_word : List Sm := (cSs c_is_word [] (defBody (top 12))).getD []
def c_is_tuple : Cfg := ⟨["thing", "least", "most"], defScope (top 13), fns, consts, excN, [], false⟩
def b_is_tuple : List Sm := (cSs c_is_tuple [] (defBody (top 13))).getD []
def c_is_kind : Cfg := ⟨["thing", "act"], defScope (top 14), fns, consts, excN, [], false⟩
def b_is_kind : List Sm := (cSs c_is_kind [] (defBody (top 14))).getD []
def c_is_script : Cfg := ⟨["thing", "step"], defScope (top 15), fns, consts, excN, [], false⟩
def b_is_script : List Sm := (cSs c_is_script [] (defBody (top 15))).getD []
def c_are_rules : Cfg := ⟨["thing", "reads", "writes", "takes"], defScope (top 16), fns, consts, excN, [], false⟩
def b_are_rules : List Sm := (cSs c_are_rules [] (defBody (top 16))).getD []
def c_kinds_fault : Cfg := ⟨["thing", "number", "kind"], defScope (top 17), fns, consts, excN, [], false⟩
def b_kinds_fault : List Sm := (cSs c_kinds_fault [] (defBody (top 17))).getD []
def c_shell_fault : Cfg := ⟨["thing", "number", "script"], defScope (top 18), fns, consts, excN, [], false⟩
def b_shell_fault : List Sm := (cSs c_shell_fault [] (defBody (top 18))).getD []
def c_setup_fault : Cfg := ⟨["thing", "fault", "kinds", "rules", "shell"], defScope (top 19), fns, consts, excN, [], false⟩
def b_setup_fault : List Sm := (cSs c_setup_fault [] (defBody (top 19))).getD []
def c_is_setup : Cfg := ⟨["thing"], defScope (top 20), fns, consts, excN, [], false⟩
def b_is_setup : List Sm := (cSs c_is_setup [] (defBody (top 20))).getD []
def c_need_setup : Cfg := ⟨["thing", "place"], defScope (top 21), fns, consts, excN, [], false⟩
def b_need_setup : List Sm := (cSs c_need_setup [] (defBody (top 21))).getD []
def c_changed_scripts : Cfg := ⟨["script", "found", "at", "one", "other"], defScope (top 23), fns, consts, excN, [], false⟩
def b_changed_scripts : List Sm := (cSs c_changed_scripts ["found"] (defBody (top 23))).getD []
def c_mends : Cfg := ⟨["setup", "shell", "found", "at", "script", "changed"], defScope (top 24), fns, consts, excN, [], false⟩
def b_mends : List Sm := (cSs c_mends ["found"] (defBody (top 24))).getD []
def c__law_begun : Cfg := ⟨["script", "seed", "cell"], defScope (top 26), fns, consts, excN, [], false⟩
def b__law_begun : List Sm := (cSs c__law_begun [] (defBody (top 26))).getD []
def c__law_draw : Cfg := ⟨["m", "limit", "mixed", "cell"], defScope (top 27), fns, consts, excN, ["m"], false⟩
def b__law_draw : List Sm := (cSs c__law_draw [] (defBody (top 27))).getD []
def c__law_of : Cfg := ⟨["m", "some"], defScope (top 28), fns, consts, excN, [], false⟩
def b__law_of : List Sm := (cSs c__law_of [] (defBody (top 28))).getD []
def c__law_some : Cfg := ⟨["m", "words", "least", "most", "k"], defScope (top 29), fns, consts, excN, [], false⟩
def b__law_some : List Sm := (cSs c__law_some [] (defBody (top 29))).getD []
def c__law_setup : Cfg := ⟨["m", "kinds", "acts", "steps", "doing", "some", "rules", "k"], defScope (top 30), fns, consts, excN, [], false⟩
def b__law_setup : List Sm := (cSs c__law_setup [] (defBody (top 30))).getD []
def c__law_mends : Cfg := ⟨["shell", "found", "k", "steps", "at", "turned"], defScope (top 31), fns, consts, excN, [], false⟩
def b__law_mends : List Sm := (cSs c__law_mends ["found"] (defBody (top 31))).getD []
def c__law_refused : Cfg := ⟨["thing", "e"], defScope (top 32), fns, consts, excN, [], false⟩
def b__law_refused : List Sm := (cSs c__law_refused [] (defBody (top 32))).getD []
def c_law : Cfg := ⟨["script", "m", "turn", "quiet", "due", "setup", "odd", "told", "step_so", "kept", "shell"], defScope (top 33), fns, consts, excN, [], false⟩
def lawS0 : Stmt := (defBody (top 33)).getD 0 (.Pass ⟨0, 0, 0, 0⟩)
def lawS1 : List Stmt := (defBody (top 33)).drop 1
def b_law0 : Sm := (cS c_law [] lawS0).getD .nop
def b_law : List Sm := (cSs c_law [] lawS1).getD []
def progD : List Df := [.tx 2 2 b_is_word, .tx 3 3 b_is_tuple, .tx 1 2 b_is_kind, .tx 1 2 b_is_script, .tx 1 4 b_are_rules, .tx 1 3 b_kinds_fault, .tx 1 3 b_shell_fault, .tx 1 5 b_setup_fault, .tx 1 1 b_is_setup, .tx 1 2 b_need_setup, .tx 1 5 b_changed_scripts, .tx 1 6 b_mends, .tx 1 3 b__law_begun, .tx 2 4 b__law_draw, .tx 2 2 b__law_of, .tx 4 5 b__law_some, .tx 4 8 b__law_setup, .tx 1 6 b__law_mends, .tx 1 2 b__law_refused]
def wd : Str → Option (Option Str) := fun _ => none
def tfs : List Str := []
def tf : List He.Defn := tfs.map fun x => (x, none)
def moreK (K : PySem.W.Frag) : Bool := moreB consts excs K
abbrev R : PySem.W.OpenRow := PySem.W.OpenLaw.row PySem.Challenge.rw_frontjobs_k28_whole_mends
def addrs : List Addr := [3, 6, 4, 24, 44, 47, 48, 49, 50, 51, 58, 65, 70, 75, 82, 89, 96, 103, 110, 117, 122, 129, 134, 141, 148, 153, 158, 165, 172, 177, 0, 23, 43, 57, 64, 69, 74, 81, 88, 95, 102, 109, 116, 121, 128, 133, 140, 147, 152, 157, 164, 171, 176, 22, 25, 41, 42, 52, 53, 54, 55, 56, 59, 60, 61, 62, 63, 66, 67, 68, 71, 72, 73, 76, 77, 78, 79, 80, 83, 84, 85, 86, 87, 90, 91, 92, 93, 94, 97, 98, 99, 100, 101, 104, 105, 106, 107, 108, 111, 112, 113, 114, 115, 118, 119, 120, 123, 124, 125, 126, 127, 130, 131, 132, 135, 136, 137, 138, 139, 142, 143, 144, 145, 146, 149, 150, 151, 154, 155, 156, 159, 160, 161, 162, 163, 166, 167, 168, 169, 170, 173, 174, 175, 40, 35, 36, 37, 38, 39]
abbrev hk : PySem.W.Hook := hookL addrs fa fn tf moreK
def ob (s : PySem.W.SharedT) : He.AlX := obsL addrs fa fn tf moreK (HandSHeadRun.getT s)
theorem ob_eq (s : PySem.W.SharedT) : ob s = hk.obs s.abs := obsL_eq (HandSHeadRun.getT_eq s)
theorem run (w : World) : HandSHeadRun.RunEq R (PySem.W.view R.prog [lawI]) hk ob 60000 loose w := by
  intro os
  kernel_rfl
theorem sc_is_word : FnScope ["thing", "words"] ["thing", "words"] (defScope (top 12)) := ⟨rfl, rfl, rfl, by decide +kernel, rfl, by decide +kernel, by decide +kernel⟩
theorem sc_is_tuple : FnScope ["thing", "least", "most"] ["thing", "least", "most"] (defScope (top 13)) := ⟨rfl, rfl, rfl, by decide +kernel, rfl, by decide +kernel, by decide +kernel⟩
theorem sc_is_kind : FnScope ["thing", "act"] ["thing"] (defScope (top 14)) := ⟨rfl, rfl, rfl, by decide +kernel, rfl, by decide +kernel, by decide +kernel⟩
theorem sc_is_script : FnScope ["thing", "step"] ["thing"] (defScope (top 15)) := ⟨rfl, rfl, rfl, by decide +kernel, rfl, by decide +kernel, by decide +kernel⟩
theorem sc_are_rules : FnScope ["thing", "reads", "writes", "takes"] ["thing"] (defScope (top 16)) := ⟨rfl, rfl, rfl, by decide +kernel, rfl, by decide +kernel, by decide +kernel⟩
theorem sc_kinds_fault : FnScope ["thing", "number", "kind"] ["thing"] (defScope (top 17)) := ⟨rfl, rfl, rfl, by decide +kernel, rfl, by decide +kernel, by decide +kernel⟩
theorem sc_shell_fault : FnScope ["thing", "number", "script"] ["thing"] (defScope (top 18)) := ⟨rfl, rfl, rfl, by decide +kernel, rfl, by decide +kernel, by decide +kernel⟩
theorem sc_setup_fault : FnScope ["thing", "fault", "kinds", "rules", "shell"] ["thing"] (defScope (top 19)) := ⟨rfl, rfl, rfl, by decide +kernel, rfl, by decide +kernel, by decide +kernel⟩
theorem sc_is_setup : FnScope ["thing"] ["thing"] (defScope (top 20)) := ⟨rfl, rfl, rfl, by decide +kernel, rfl, by decide +kernel, by decide +kernel⟩
theorem sc_need_setup : FnScope ["thing", "place"] ["thing"] (defScope (top 21)) := ⟨rfl, rfl, rfl, by decide +kernel, rfl, by decide +kernel, by decide +kernel⟩
theorem sc_changed_scripts : FnScope ["script", "found", "at", "one", "other"] ["script"] (defScope (top 23)) := ⟨rfl, rfl, rfl, by decide +kernel, rfl, by decide +kernel, by decide +kernel⟩
theorem sc_mends : FnScope ["setup", "shell", "found", "at", "script", "changed"] ["setup"] (defScope (top 24)) := ⟨rfl, rfl, rfl, by decide +kernel, rfl, by decide +kernel, by decide +kernel⟩
theorem sc__law_begun : FnScope ["script", "seed", "cell"] ["script"] (defScope (top 26)) := ⟨rfl, rfl, rfl, by decide +kernel, rfl, by decide +kernel, by decide +kernel⟩
theorem sc__law_draw : FnScope ["m", "limit", "mixed", "cell"] ["m", "limit"] (defScope (top 27)) := ⟨rfl, rfl, rfl, by decide +kernel, rfl, by decide +kernel, by decide +kernel⟩
theorem sc__law_of : FnScope ["m", "some"] ["m", "some"] (defScope (top 28)) := ⟨rfl, rfl, rfl, by decide +kernel, rfl, by decide +kernel, by decide +kernel⟩
theorem sc__law_some : FnScope ["m", "words", "least", "most", "k"] ["m", "words", "least", "most"] (defScope (top 29)) := ⟨rfl, rfl, rfl, by decide +kernel, rfl, by decide +kernel, by decide +kernel⟩
theorem sc__law_setup : FnScope ["m", "kinds", "acts", "steps", "doing", "some", "rules", "k"] ["m", "kinds", "acts", "steps"] (defScope (top 30)) := ⟨rfl, rfl, rfl, by decide +kernel, rfl, by decide +kernel, by decide +kernel⟩
theorem sc__law_mends : FnScope ["shell", "found", "k", "steps", "at", "turned"] ["shell"] (defScope (top 31)) := ⟨rfl, rfl, rfl, by decide +kernel, rfl, by decide +kernel, by decide +kernel⟩
theorem sc__law_refused : FnScope ["thing", "e"] ["thing"] (defScope (top 32)) := ⟨rfl, rfl, rfl, by decide +kernel, rfl, by decide +kernel, by decide +kernel⟩
theorem sc_law : FnScope ["script", "m", "turn", "quiet", "due", "setup", "odd", "told", "step_so", "kept", "shell"] ["script"] (defScope (top 33)) := ⟨rfl, rfl, rfl, by decide +kernel, rfl, by decide +kernel, by decide +kernel⟩
theorem k_is_word : (cSs c_is_word [] (defBody (top 12))).isSome = true := by decide +kernel
theorem k_is_tuple : (cSs c_is_tuple [] (defBody (top 13))).isSome = true := by decide +kernel
theorem k_is_kind : (cSs c_is_kind [] (defBody (top 14))).isSome = true := by decide +kernel
theorem k_is_script : (cSs c_is_script [] (defBody (top 15))).isSome = true := by decide +kernel
theorem k_are_rules : (cSs c_are_rules [] (defBody (top 16))).isSome = true := by decide +kernel
theorem k_kinds_fault : (cSs c_kinds_fault [] (defBody (top 17))).isSome = true := by decide +kernel
theorem k_shell_fault : (cSs c_shell_fault [] (defBody (top 18))).isSome = true := by decide +kernel
theorem k_setup_fault : (cSs c_setup_fault [] (defBody (top 19))).isSome = true := by decide +kernel
theorem k_is_setup : (cSs c_is_setup [] (defBody (top 20))).isSome = true := by decide +kernel
theorem k_need_setup : (cSs c_need_setup [] (defBody (top 21))).isSome = true := by decide +kernel
theorem k_changed_scripts : (cSs c_changed_scripts ["found"] (defBody (top 23))).isSome = true := by decide +kernel
theorem k_mends : (cSs c_mends ["found"] (defBody (top 24))).isSome = true := by decide +kernel
theorem k__law_begun : (cSs c__law_begun [] (defBody (top 26))).isSome = true := by decide +kernel
theorem k__law_draw : (cSs c__law_draw [] (defBody (top 27))).isSome = true := by decide +kernel
theorem k__law_of : (cSs c__law_of [] (defBody (top 28))).isSome = true := by decide +kernel
theorem k__law_some : (cSs c__law_some [] (defBody (top 29))).isSome = true := by decide +kernel
theorem k__law_setup : (cSs c__law_setup [] (defBody (top 30))).isSome = true := by decide +kernel
theorem k__law_mends : (cSs c__law_mends ["found"] (defBody (top 31))).isSome = true := by decide +kernel
theorem k__law_refused : (cSs c__law_refused [] (defBody (top 32))).isSome = true := by decide +kernel
theorem k_law0 : (cS c_law [] lawS0).isSome = true := by decide +kernel
theorem k_law : (cSs c_law [] lawS1).isSome = true := by decide +kernel
theorem k_law0e : cS c_law [] lawS0 = some b_law0 := by
  have h := k_law0
  unfold b_law0
  cases e : cS c_law [] lawS0 with
  | none => rw [e] at h; cases h
  | some x => rfl
theorem sx_BadSetup : FnScope ["self", "place"] ["self", "place"] (defScope (inCls (top 2))) := ⟨rfl, rfl, rfl, by decide +kernel, rfl, by decide +kernel, by decide +kernel⟩
def PureOk (f : Nat) (nW : Nat) : Prop := ∀ ns : List Int, ns.length ≤ 63 → ∀ g, ∃ gg g1 g2, exS ⟨callF wd nW progD f, wd⟩ nW b_law0 (lawEnv 11 ns) g = .ok (.nx ((lawEnv 11 ns).set 1 (.fz (gDict gg)))) g1 ∧ exSs ⟨callF wd nW progD f, wd⟩ nW b_law ((lawEnv 11 ns).set 1 .gn) gg = .ok (.rt (.bool true)) g2
theorem facts {f0 nW : Nat} (pure : PureOk f0 nW) {w : World} {K : PySem.W.Frag} {h : Heap} {mg : Str → Option Value} {f : Addr} (X : K.In h) (sysD : SysOk h) (G : h.Ns mainGlobals mg) (hfa : mg ("law" : Str) = some (.ref f)) (c : He.SaysX fa fn [] tf moreK w h K) :
    LawG PySem.Challenge.rw_frontjobs_k28_whole_mends w K (L2.CX PySem.Challenge.pw_frontjobs_k28_whole_mends w) (lv f0 + 3) 63 "script" mg f h := by
  have cd := c.t.d
  obtain ⟨fd_is_word, F_is_word⟩ := cd.def_ 0 (d := dd "is_word" "is_word" ("is_word", none) (top 12)) rfl
  obtain ⟨fd_is_tuple, F_is_tuple⟩ := cd.def_ 1 (d := dd "is_tuple" "is_tuple" ("is_tuple", none) (top 13)) rfl
  obtain ⟨fd_is_kind, F_is_kind⟩ := cd.def_ 2 (d := dd "is_kind" "is_kind" ("is_kind", none) (top 14)) rfl
  obtain ⟨fd_is_script, F_is_script⟩ := cd.def_ 3 (d := dd "is_script" "is_script" ("is_script", none) (top 15)) rfl
  obtain ⟨fd_are_rules, F_are_rules⟩ := cd.def_ 4 (d := dd "are_rules" "are_rules" ("are_rules", none) (top 16)) rfl
  obtain ⟨fd_kinds_fault, F_kinds_fault⟩ := cd.def_ 5 (d := dd "kinds_fault" "kinds_fault" ("kinds_fault", none) (top 17)) rfl
  obtain ⟨fd_shell_fault, F_shell_fault⟩ := cd.def_ 6 (d := dd "shell_fault" "shell_fault" ("shell_fault", none) (top 18)) rfl
  obtain ⟨fd_setup_fault, F_setup_fault⟩ := cd.def_ 7 (d := dd "setup_fault" "setup_fault" ("setup_fault", none) (top 19)) rfl
  obtain ⟨fd_is_setup, F_is_setup⟩ := cd.def_ 8 (d := dd "is_setup" "is_setup" ("is_setup", none) (top 20)) rfl
  obtain ⟨fd_need_setup, F_need_setup⟩ := cd.def_ 9 (d := dd "need_setup" "need_setup" ("need_setup", none) (top 21)) rfl
  obtain ⟨fd_changed_scripts, F_changed_scripts⟩ := cd.def_ 10 (d := dd "changed_scripts" "changed_scripts" ("changed_scripts", none) (top 23)) rfl
  obtain ⟨fd_mends, F_mends⟩ := cd.def_ 11 (d := dd "mends" "mends" ("mends", none) (top 24)) rfl
  obtain ⟨fd__law_begun, F__law_begun⟩ := cd.def_ 12 (d := dd "_law_begun" "_law_begun" ("_law_begun", none) (top 26)) rfl
  obtain ⟨fd__law_draw, F__law_draw⟩ := cd.def_ 13 (d := dd "_law_draw" "_law_draw" ("_law_draw", none) (top 27)) rfl
  obtain ⟨fd__law_of, F__law_of⟩ := cd.def_ 14 (d := dd "_law_of" "_law_of" ("_law_of", none) (top 28)) rfl
  obtain ⟨fd__law_some, F__law_some⟩ := cd.def_ 15 (d := dd "_law_some" "_law_some" ("_law_some", none) (top 29)) rfl
  obtain ⟨fd__law_setup, F__law_setup⟩ := cd.def_ 16 (d := dd "_law_setup" "_law_setup" ("_law_setup", none) (top 30)) rfl
  obtain ⟨fd__law_mends, F__law_mends⟩ := cd.def_ 17 (d := dd "_law_mends" "_law_mends" ("_law_mends", none) (top 31)) rfl
  obtain ⟨fd__law_refused, F__law_refused⟩ := cd.def_ 18 (d := dd "_law_refused" "_law_refused" ("_law_refused", none) (top 32)) rfl
  obtain ⟨fd_law, F_law⟩ := cd.def_ 19 (d := dd "law" "law" ("law", none) (top 33)) rfl
  obtain ⟨fx_BadSetup, X_BadSetup⟩ := cd.def_ 20 (d := dd "__init__" "BadSetup.__init__" ("BadSetup", some "__init__") (inCls (top 2))) rfl
  have glo : ∀ x, He.Fa.glo x ∈ fa → mg x = some (.ref (He.ga K x)) := fun x hx => He.glo_ok X G (cd.facts hx)
  have e := hfa.symm.trans (glo "law" (by simp [fa]))
  cases e
  have mb := c.more
  unfold moreK at mb
  have mem : ∀ x ∈ tfs, (x, none) ∈ tf := fun x hx => List.mem_map.mpr ⟨x, hx, rfl⟩
  refine lawG_of (tfs := tfs) (fd := fd_law) (Pn := fun ns => ns.length ≤ 63) X sysD (fun x hx => c.empty _ (mem x hx)) (fun x hx => c.out _ (mem x hx)) (fun x hx => PySem.W.codeHd_of_K X (c.hd _ (mem x hx))) ?_ (fun _ h => h) fun base bK bG bS TB => ?_
  · have b := FunD.bindsA (ps := ["script"]) F_law fun _ _ _ _ _ _ us hl => match us, hl with | [_], _ => rfl
    exact fun s u => b s [u] rfl
  have globB : ∀ x, He.Fa.glo x ∈ fa → mg x = some (.ref (He.ga K x)) := glo
  let S : Sig := ⟨⟨K, w⟩, none, tabT K tfs, He.ga K, atOf excs⟩
  have blt : ∀ x ∈ bltNames, mg x = none := fun x hx => He.free_ok X G (cd.facts (f := .free x) (by
    have : ∀ x ∈ bltNames, He.Fa.free x ∈ fa := by simp [bltNames, fa]
    exact this x hx))
  have B : ∀ gm, Glb PySem.Challenge.pw_frontjobs_k28_whole_mends w K mg base (S.on gm) consts excN := fun gm => glb_of bK bG rfl (fun _ _ => rfl) (fun q hq => by
      have : ∀ q ∈ excs, atOf excs q.1 = q.2 := by decide +kernel
      exact this q hq) mb (fun q hq => by
      have : ∀ q ∈ excs, He.Fa.glo q.1 ∈ fa := by simp [excs, fa]
      exact glo q.1 (this q hq)) (by decide +kernel) blt bS (List.forall_mem_cons.mpr ⟨⟨_, _, _, _, _, _, _, _, _, _, X_BadSetup, sx_BadSetup, .inl rfl, .inl rfl, rfl, rfl, X_BadSetup.bindsN fun _ _ _ _ _ _ us hl => match us, hl with | [_, _], _ => rfl⟩, fun _ h => nomatch h⟩)
  let T : List (En × Df) := [(⟨"is_word", He.ga K "is_word", fd_is_word, ["thing", "words"]⟩, .tx 2 2 b_is_word), (⟨"is_tuple", He.ga K "is_tuple", fd_is_tuple, ["thing", "least", "most"]⟩, .tx 3 3 b_is_tuple), (⟨"is_kind", He.ga K "is_kind", fd_is_kind, ["thing"]⟩, .tx 1 2 b_is_kind), (⟨"is_script", He.ga K "is_script", fd_is_script, ["thing"]⟩, .tx 1 2 b_is_script), (⟨"are_rules", He.ga K "are_rules", fd_are_rules, ["thing"]⟩, .tx 1 4 b_are_rules), (⟨"kinds_fault", He.ga K "kinds_fault", fd_kinds_fault, ["thing"]⟩, .tx 1 3 b_kinds_fault), (⟨"shell_fault", He.ga K "shell_fault", fd_shell_fault, ["thing"]⟩, .tx 1 3 b_shell_fault), (⟨"setup_fault", He.ga K "setup_fault", fd_setup_fault, ["thing"]⟩, .tx 1 5 b_setup_fault), (⟨"is_setup", He.ga K "is_setup", fd_is_setup, ["thing"]⟩, .tx 1 1 b_is_setup), (⟨"need_setup", He.ga K "need_setup", fd_need_setup, ["thing"]⟩, .tx 1 2 b_need_setup), (⟨"changed_scripts", He.ga K "changed_scripts", fd_changed_scripts, ["script"]⟩, .tx 1 5 b_changed_scripts), (⟨"mends", He.ga K "mends", fd_mends, ["setup"]⟩, .tx 1 6 b_mends), (⟨"_law_begun", He.ga K "_law_begun", fd__law_begun, ["script"]⟩, .tx 1 3 b__law_begun), (⟨"_law_draw", He.ga K "_law_draw", fd__law_draw, ["m", "limit"]⟩, .tx 2 4 b__law_draw), (⟨"_law_of", He.ga K "_law_of", fd__law_of, ["m", "some"]⟩, .tx 2 2 b__law_of), (⟨"_law_some", He.ga K "_law_some", fd__law_some, ["m", "words", "least", "most"]⟩, .tx 4 5 b__law_some), (⟨"_law_setup", He.ga K "_law_setup", fd__law_setup, ["m", "kinds", "acts", "steps"]⟩, .tx 4 8 b__law_setup), (⟨"_law_mends", He.ga K "_law_mends", fd__law_mends, ["shell"]⟩, .tx 1 6 b__law_mends), (⟨"_law_refused", He.ga K "_law_refused", fd__law_refused, ["thing"]⟩, .tx 1 2 b__law_refused)]
  have hfns : fnsOf T = fns := rfl
  have hprog : T.map (·.2) = progD := rfl
  have all : ∀ q ∈ T, DefAll K mg base (tabT K tfs) fns consts excN q := List.forall_mem_cons.mpr ⟨defAll_of (params := defArgs (top 12)) (scope := defScope (top 12)) (N := ["thing", "words"]) (ps := ["thing", "words"]) (L := []) (gs := []) (lam := false) F_is_word sc_is_word k_is_word (F_is_word.bindsN fun _ _ _ _ _ _ us hl => match us, hl with | [_, _], _ => rfl) (glo "is_word" (by simp [fa])) (fun z => by cases z), List.forall_mem_cons.mpr ⟨defAll_of (params := defArgs (top 13)) (scope := defScope (top 13)) (N := ["thing", "least", "most"]) (ps := ["thing", "least", "most"]) (L := []) (gs := []) (lam := false) F_is_tuple sc_is_tuple k_is_tuple (F_is_tuple.bindsN fun _ _ _ _ _ _ us hl => match us, hl with | [_, _, _], _ => rfl) (glo "is_tuple" (by simp [fa])) (fun z => by cases z), List.forall_mem_cons.mpr ⟨defAll_of (params := defArgs (top 14)) (scope := defScope (top 14)) (N := ["thing", "act"]) (ps := ["thing"]) (L := []) (gs := []) (lam := false) F_is_kind sc_is_kind k_is_kind (F_is_kind.bindsN fun _ _ _ _ _ _ us hl => match us, hl with | [_], _ => rfl) (glo "is_kind" (by simp [fa])) (fun z => by cases z), List.forall_mem_cons.mpr ⟨defAll_of (params := defArgs (top 15)) (scope := defScope (top 15)) (N := ["thing", "step"]) (ps := ["thing"]) (L := []) (gs := []) (lam := false) F_is_script sc_is_script k_is_script (F_is_script.bindsN fun _ _ _ _ _ _ us hl => match us, hl with | [_], _ => rfl) (glo "is_script" (by simp [fa])) (fun z => by cases z), List.forall_mem_cons.mpr ⟨defAll_of (params := defArgs (top 16)) (scope := defScope (top 16)) (N := ["thing", "reads", "writes", "takes"]) (ps := ["thing"]) (L := []) (gs := []) (lam := false) F_are_rules sc_are_rules k_are_rules (F_are_rules.bindsN fun _ _ _ _ _ _ us hl => match us, hl with | [_], _ => rfl) (glo "are_rules" (by simp [fa])) (fun z => by cases z), List.forall_mem_cons.mpr ⟨defAll_of (params := defArgs (top 17)) (scope := defScope (top 17)) (N := ["thing", "number", "kind"]) (ps := ["thing"]) (L := []) (gs := []) (lam := false) F_kinds_fault sc_kinds_fault k_kinds_fault (F_kinds_fault.bindsN fun _ _ _ _ _ _ us hl => match us, hl with | [_], _ => rfl) (glo "kinds_fault" (by simp [fa])) (fun z => by cases z), List.forall_mem_cons.mpr ⟨defAll_of (params := defArgs (top 18)) (scope := defScope (top 18)) (N := ["thing", "number", "script"]) (ps := ["thing"]) (L := []) (gs := []) (lam := false) F_shell_fault sc_shell_fault k_shell_fault (F_shell_fault.bindsN fun _ _ _ _ _ _ us hl => match us, hl with | [_], _ => rfl) (glo "shell_fault" (by simp [fa])) (fun z => by cases z), List.forall_mem_cons.mpr ⟨defAll_of (params := defArgs (top 19)) (scope := defScope (top 19)) (N := ["thing", "fault", "kinds", "rules", "shell"]) (ps := ["thing"]) (L := []) (gs := []) (lam := false) F_setup_fault sc_setup_fault k_setup_fault (F_setup_fault.bindsN fun _ _ _ _ _ _ us hl => match us, hl with | [_], _ => rfl) (glo "setup_fault" (by simp [fa])) (fun z => by cases z), List.forall_mem_cons.mpr ⟨defAll_of (params := defArgs (top 20)) (scope := defScope (top 20)) (N := ["thing"]) (ps := ["thing"]) (L := []) (gs := []) (lam := false) F_is_setup sc_is_setup k_is_setup (F_is_setup.bindsN fun _ _ _ _ _ _ us hl => match us, hl with | [_], _ => rfl) (glo "is_setup" (by simp [fa])) (fun z => by cases z), List.forall_mem_cons.mpr ⟨defAll_of (params := defArgs (top 21)) (scope := defScope (top 21)) (N := ["thing", "place"]) (ps := ["thing"]) (L := []) (gs := []) (lam := false) F_need_setup sc_need_setup k_need_setup (F_need_setup.bindsN fun _ _ _ _ _ _ us hl => match us, hl with | [_], _ => rfl) (glo "need_setup" (by simp [fa])) (fun z => by cases z), List.forall_mem_cons.mpr ⟨defAll_of (params := defArgs (top 23)) (scope := defScope (top 23)) (N := ["script", "found", "at", "one", "other"]) (ps := ["script"]) (L := ["found"]) (gs := []) (lam := false) F_changed_scripts sc_changed_scripts k_changed_scripts (F_changed_scripts.bindsN fun _ _ _ _ _ _ us hl => match us, hl with | [_], _ => rfl) (glo "changed_scripts" (by simp [fa])) (fun z => by cases z), List.forall_mem_cons.mpr ⟨defAll_of (params := defArgs (top 24)) (scope := defScope (top 24)) (N := ["setup", "shell", "found", "at", "script", "changed"]) (ps := ["setup"]) (L := ["found"]) (gs := []) (lam := false) F_mends sc_mends k_mends (F_mends.bindsN fun _ _ _ _ _ _ us hl => match us, hl with | [_], _ => rfl) (glo "mends" (by simp [fa])) (fun z => by cases z), List.forall_mem_cons.mpr ⟨defAll_of (params := defArgs (top 26)) (scope := defScope (top 26)) (N := ["script", "seed", "cell"]) (ps := ["script"]) (L := []) (gs := []) (lam := false) F__law_begun sc__law_begun k__law_begun (F__law_begun.bindsN fun _ _ _ _ _ _ us hl => match us, hl with | [_], _ => rfl) (glo "_law_begun" (by simp [fa])) (fun z => by cases z), List.forall_mem_cons.mpr ⟨defAll_of (params := defArgs (top 27)) (scope := defScope (top 27)) (N := ["m", "limit", "mixed", "cell"]) (ps := ["m", "limit"]) (L := []) (gs := ["m"]) (lam := false) F__law_draw sc__law_draw k__law_draw (F__law_draw.bindsN fun _ _ _ _ _ _ us hl => match us, hl with | [_, _], _ => rfl) (glo "_law_draw" (by simp [fa])) (fun z => by cases z), List.forall_mem_cons.mpr ⟨defAll_of (params := defArgs (top 28)) (scope := defScope (top 28)) (N := ["m", "some"]) (ps := ["m", "some"]) (L := []) (gs := []) (lam := false) F__law_of sc__law_of k__law_of (F__law_of.bindsN fun _ _ _ _ _ _ us hl => match us, hl with | [_, _], _ => rfl) (glo "_law_of" (by simp [fa])) (fun z => by cases z), List.forall_mem_cons.mpr ⟨defAll_of (params := defArgs (top 29)) (scope := defScope (top 29)) (N := ["m", "words", "least", "most", "k"]) (ps := ["m", "words", "least", "most"]) (L := []) (gs := []) (lam := false) F__law_some sc__law_some k__law_some (F__law_some.bindsN fun _ _ _ _ _ _ us hl => match us, hl with | [_, _, _, _], _ => rfl) (glo "_law_some" (by simp [fa])) (fun z => by cases z), List.forall_mem_cons.mpr ⟨defAll_of (params := defArgs (top 30)) (scope := defScope (top 30)) (N := ["m", "kinds", "acts", "steps", "doing", "some", "rules", "k"]) (ps := ["m", "kinds", "acts", "steps"]) (L := []) (gs := []) (lam := false) F__law_setup sc__law_setup k__law_setup (F__law_setup.bindsN fun _ _ _ _ _ _ us hl => match us, hl with | [_, _, _, _], _ => rfl) (glo "_law_setup" (by simp [fa])) (fun z => by cases z), List.forall_mem_cons.mpr ⟨defAll_of (params := defArgs (top 31)) (scope := defScope (top 31)) (N := ["shell", "found", "k", "steps", "at", "turned"]) (ps := ["shell"]) (L := ["found"]) (gs := []) (lam := false) F__law_mends sc__law_mends k__law_mends (F__law_mends.bindsN fun _ _ _ _ _ _ us hl => match us, hl with | [_], _ => rfl) (glo "_law_mends" (by simp [fa])) (fun z => by cases z), List.forall_mem_cons.mpr ⟨defAll_of (params := defArgs (top 32)) (scope := defScope (top 32)) (N := ["thing", "e"]) (ps := ["thing"]) (L := []) (gs := []) (lam := false) F__law_refused sc__law_refused k__law_refused (F__law_refused.bindsN fun _ _ _ _ _ _ us hl => match us, hl with | [_], _ => rfl) (glo "_law_refused" (by simp [fa])) (fun z => by cases z), fun _ h => nomatch h⟩⟩⟩⟩⟩⟩⟩⟩⟩⟩⟩⟩⟩⟩⟩⟩⟩⟩⟩
  have ih : ∀ gm i q, T[i]? = some q → FnG PySem.Challenge.pw_frontjobs_k28_whole_mends w K mg base (L2.CX PySem.Challenge.pw_frontjobs_k28_whole_mends w) (lv f0) q.1.fa q.1.fd q.1.ps (spOf (S.on gm) q.2.ar (callF wd nW (T.map (·.2)) f0 i)) := fun gm =>
    fn_all (tst := []) (B gm) (fun q hq => (all q hq).gl) (fun q hq => (all q hq).ar) (fun q hq n len b e => by rw [hfns]; exact (all q hq).tx n len b e) (fun z => absurd (show S.T = [] from rfl) z) (fun q hq n m e => absurd e ((all q hq).nosp n m)) f0
  have pz := pure
  unfold PureOk at pz
  rw [← hprog] at pz
  have lt : LawTx K mg base (tabT K tfs) fns consts excN ⟨"law", He.ga K "law", fd_law, ["script"]⟩ 11 b_law0 b_law := lawTx_of (params := defArgs (top 33)) (s0 := lawS0) (s1 := lawS1) (scope := defScope (top 33)) (N := ["script", "m", "turn", "quiet", "due", "setup", "odd", "told", "step_so", "kept", "shell"]) (L := []) (gs := []) (lam := false) F_law sc_law k_law0e k_law rfl (fun z => by cases z)
  exact fnG_law (S := S) (tst := []) (e := ⟨"law", He.ga K "law", fd_law, ["script"]⟩) B (fun q hq => (all q hq).gl) ih (by rw [hfns]; exact lt) (fun z => absurd (show S.T = [] from rfl) z) (Pn := fun ns => ns.length ≤ 63) (by decide : 0 < 1) (by decide) pz
end Kk28
section
set_option Elab.async false
set_option linter.all false
set_option maxRecDepth 100000
set_option maxHeartbeats 4000000
namespace PD
open PySem PySem.Spec L2

/-! ### the drawing, for any law -/
theorem one_s : (1 : Nat) ≤ sizeLine := by rw [sizeLine_eq]; omega
theorem zero_s : (0 : Nat) ≤ sizeLine := Nat.zero_le _
theorem raise_bd {α β : Type} {c : Str} {d : D} {k : α → M β} : (M.raise c d : M α).bd k = M.raise c d := rfl
theorem eqv_nil (ys : List D) : PyData.eqv (.list ys) (.list []) = ys.isEmpty := by
  cases ys <;> simp [PyData.eqv, PyData.eqvAll]
def L_begun (s0 : Int) : List Sm := [(.asg (.n 1) (.c (.int s0))), (.for_ (.n 2) (.e (.v 0)) [(.asg (.n 1) (.bin .Mod (.bf .int [(.bin .Add (.bin .Add (.bin .Mult (.v 1) (.c (.int (69621)))) (.bin .Mod (.bf .int [(.v 2)]) (.c (.int (2147483629))))) (.c (.int (7))))]) (.c (.int (2147483647)))))]), (.ret (.dict ["great", "seed", "turns"] [(.lc (.n 2) (.e (.v 0)) (some (.cmp .GtE (.v 2) (.bin .Pow (.c (.int (10))) (.c (.int (18)))))) (.v 2) [2]), (.v 1), (.c (.int (0)))]))]
def L_draw : List Sm := [(.whl (.and (.cmp .NotEq (.gix 0 "great") (.lst [])) (.cmp .Eq (.ix (.gix 0 "great") (.c (.int (0)))) (.c (.int (0))))) [(.gput 0 "great" (.sl (.gix 0 "great") (some (.c (.int (1)))) none))]), (.iff (.cmp .NotEq (.gix 0 "great") (.lst [])) [(.asg (.n 3) (.ix (.gix 0 "great") (.c (.int (0))))), (.gput 0 "great" (.bin .Add (.lst [(.bin .FloorDiv (.v 3) (.v 1))]) (.sl (.gix 0 "great") (some (.c (.int (1)))) none))), (.ret (.bin .Mod (.bf .int [(.v 3)]) (.v 1)))] []), (.gput 0 "turns" (.bin .Add (.gix 0 "turns") (.c (.int (1))))), (.asg (.n 2) (.bin .Mod (.bf .int [(.bin .Add (.bin .Add (.bin .Mult (.gix 0 "seed") (.c (.int (48271)))) (.bin .Mult (.bin .Mult (.gix 0 "turns") (.gix 0 "turns")) (.c (.int (16807))))) (.gix 0 "turns"))]) (.c (.int (2147483647))))), (.asg (.n 2) (.bin .Mod (.bf .int [(.bin .Add (.bin .Mult (.v 2) (.c (.int (69621)))) (.c (.int (12345))))]) (.c (.int (2147483629))))), (.ret (.bin .Mod (.bin .FloorDiv (.bin .Mod (.bf .int [(.bin .Add (.bin .Mult (.v 2) (.c (.int (40014)))) (.gix 0 "turns"))]) (.c (.int (2147483563)))) (.c (.int (64)))) (.v 1)))]
def L_of (j : Nat) : List Sm := [(.ret (.ix (.v 1) (.call j [(.v 0), (.bf .len [(.v 1)])])))]
theorem bd_ap {α β : Type} (m : M α) (k : α → M β) (g : Gen) : (m.bd k) g = match m g with
  | .ok a g' => k a g'
  | .er c d g' => .er c d g'
  | .st => .st := rfl
theorem pu_ap {α : Type} (a : α) (g : Gen) : M.pu a g = .ok a g := rfl
def iL (ns : List Int) : D := .list (ns.map .int)
theorem gx_great {g : Gen} : gxD (some .gn) ("great" : Str) g = .ok (.d (iL g.great)) g := by simp [gxD, gGet, iL]
theorem gx_seed {g : Gen} : gxD (some .gn) ("seed" : Str) g = .ok (.d (.int g.seed)) g := by
  have h : ¬ ("seed" : Str) = "great" := by decide
  simp [gxD, gGet, h]
theorem gx_turns {g : Gen} : gxD (some .gn) ("turns" : Str) g = .ok (.d (.int g.turns)) g := by
  have h : ¬ ("turns" : Str) = "great" := by decide
  have h2 : ¬ ("turns" : Str) = "seed" := by decide
  simp [gxD, gGet, h, h2]
theorem mapM_ints : ∀ ns : List Int, (ns.map PyData.int).mapM intOf = some ns
  | [] => rfl
  | n :: ns => by simp [List.mapM_cons, mapM_ints ns, intOf]
theorem gp_great {g : Gen} {env : PD.Env} {ns : List Int} : gpD (some .gn) ("great" : Str) (iL ns) env g = .ok (.nx env) { g with great := ns } := by
  have h := mapM_ints ns
  rw [List.mapM_map] at h
  simp [gpD, gSet, iL, h]
theorem gp_turns {g : Gen} {env : PD.Env} {i : Int} : gpD (some .gn) ("turns" : Str) (.int i) env g = .ok (.nx env) { g with turns := i } := by
  have h : ¬ ("turns" : Str) = "great" := by decide
  have h2 : ¬ ("turns" : Str) = "seed" := by decide
  simp [gpD, gSet, intOf, h, h2]
theorem ints_lay : ∀ ns : List Int, PyData.canLayAll0 (ns.map .int) = true ∧ PyData.depthAll (ns.map .int) = 0
  | [] => by simp [PyData.canLayAll0, PyData.depthAll]
  | n :: ns => by simp [PyData.canLayAll0, PyData.depthAll, PyData.canLay0, PyData.depth, ints_lay ns]
theorem ints_sh (ns : List Int) : SeqAt.shaped (iL ns) = true := by
  unfold SeqAt.shaped iL
  simp [PyData.canLay0, PyData.depth, ints_lay ns]
theorem ints_nil (ns : List Int) : PyData.eqv (iL ns) (.list []) = ns.isEmpty := by
  unfold iL
  rw [eqv_nil]
  cases ns <;> rfl
theorem cut1 (x : D) (xs : List D) : cutD (x :: xs) (some 1) none = xs := by
  unfold cutD HT.sIx
  simp
theorem sl_ints (z : Int) (r : List Int) : slD (.d (iL (z :: r))) (some 1) none = some (iL r) := by
  simp [slD, asD, iL, cut1]
theorem ix_ints (z : Int) (r : List Int) : ixD (.d (iL (z :: r))) (.d (.int 0)) = some (.int z) := by
  simp [ixD, asD, iL, itD, atI, ixN]
structure G (k : Int) (g : Gen) : Prop where
  gl : g.great.length ≤ 63
  t0 : 0 ≤ g.turns
  tk : g.turns ≤ k
section
variable {F : Fns} {n : Nat}
def wT : E := .and (.cmp .NotEq (.gix 0 "great") (.lst [])) (.cmp .Eq (.ix (.gix 0 "great") (.c (.int 0))) (.c (.int 0)))
def wB : List Sm := [.gput 0 "great" (.sl (.gix 0 "great") (some (.c (.int 1))) none)]
theorem draw_whl {env : PD.Env} (he : env[0]? = some .gn) : ∀ (ns : List Int) (m : Nat) (g : Gen), g.great = ns → ns.length < m → ∃ ns', ns'.length ≤ ns.length ∧ (ns' = [] ∨ ∃ z r, ns' = z :: r ∧ z ≠ 0) ∧ whB (evT F wT) (exSs F n wB) m env g = .ok (.nx env) { g with great := ns' }
  | _, 0, _, _, hm => by omega
  | [], m + 1, g, hg, _ => by
    refine ⟨[], by simp, .inl rfl, ?_⟩
    have hsn : SeqAt.shaped (.list []) = true := by decide
    have hg' : ({ g with great := [] } : Gen) = g := by cases g; simp_all
    rw [hg']
    simp [whB, wT, ofO_some, M.pu_bd, exsx_nil, exsx_cons, exx_asg, exx_par, exx_ret, exx_retN, exx_iff, exx_for, exx_whl, exx_raise, exx_gput, evx_c, evx_v, evx_bin, evx_cmp, evx_chain, evx_and, evx_or, evx_not, evx_tup, evx_lst, evx_ix, evx_sl, evx_bf, evx_call, evx_gix, evx_ite, evsx_nil, evsx_cons, evT, evO, evOT, Env.get, bf_one, bf1, isi_str, isi_tup, isStr, isTupD, asD, truD, cmpD, cmpOp, eqE, nilEq, solid, endD, slOf, dOf, toInt, seqOf, seqE, seqS, seqJ, setTg, setTgs, List.mapM_cons, List.mapM_nil, Option.bind, Option.map, bd_ap, pu_ap, he, gx_great, hg, eqD, ints_sh, ints_nil, hsn, zero_s]
  | z :: r, m + 1, g, hg, hm => by
    have hsn : SeqAt.shaped (.list []) = true := by decide
    have shi : ∀ i : Int, SeqAt.shaped (.int i) = true := fun i => by simp [SeqAt.shaped, PyData.canLay0, PyData.depth]
    have eqi : ∀ i j : Int, PyData.eqv (.int i) (.int j) = (i == j) := fun i j => by simp [PyData.eqv]
    by_cases hz : z = 0
    · subst hz
      obtain ⟨ns', h1, h2, h3⟩ := draw_whl he r m { g with great := r } rfl (by simpa using hm)
      refine ⟨ns', by simp; omega, h2, ?_⟩
      rw [← h3]
      simp [whB, wT, wB, ofO_some, M.pu_bd, exsx_nil, exsx_cons, exx_asg, exx_par, exx_ret, exx_retN, exx_iff, exx_for, exx_whl, exx_raise, exx_gput, evx_c, evx_v, evx_bin, evx_cmp, evx_chain, evx_and, evx_or, evx_not, evx_tup, evx_lst, evx_ix, evx_sl, evx_bf, evx_call, evx_gix, evx_ite, evsx_nil, evsx_cons, evT, evO, evOT, Env.get, bf_one, bf1, isi_str, isi_tup, isStr, isTupD, asD, truD, cmpD, cmpOp, eqE, nilEq, solid, endD, slOf, dOf, toInt, seqOf, seqE, seqS, seqJ, setTg, setTgs, List.mapM_cons, List.mapM_nil, Option.bind, Option.map, bd_ap, pu_ap, he, gx_great, gp_great, hg, eqD, ints_sh, ints_nil, hsn, zero_s, ix_ints, sl_ints, shi, eqi]
    · refine ⟨z :: r, by simp, .inr ⟨z, r, rfl, hz⟩, ?_⟩
      have hg' : ({ g with great := z :: r } : Gen) = g := by cases g; simp_all
      rw [hg']
      simp [whB, wT, ofO_some, M.pu_bd, exsx_nil, exsx_cons, exx_asg, exx_par, exx_ret, exx_retN, exx_iff, exx_for, exx_whl, exx_raise, exx_gput, evx_c, evx_v, evx_bin, evx_cmp, evx_chain, evx_and, evx_or, evx_not, evx_tup, evx_lst, evx_ix, evx_sl, evx_bf, evx_call, evx_gix, evx_ite, evsx_nil, evsx_cons, evT, evO, evOT, Env.get, bf_one, bf1, isi_str, isi_tup, isStr, isTupD, asD, truD, cmpD, cmpOp, eqE, nilEq, solid, endD, slOf, dOf, toInt, seqOf, seqE, seqS, seqJ, setTg, setTgs, List.mapM_cons, List.mapM_nil, Option.bind, Option.map, bd_ap, pu_ap, he, gx_great, hg, eqD, ints_sh, ints_nil, hsn, zero_s, ix_ints, shi, eqi, hz]
end
theorem iL_add (z : Int) (r : List Int) (hl : (z :: r).length ≤ 63) : addD (.list [.int z]) (iL r) = some (iL (z :: r)) := by
  have : [PyData.int z].length + (r.map PyData.int).length ≤ sizeLine := by
    rw [sizeLine_eq]
    simp at hl ⊢
    omega
  simp only [iL, addD]
  rw [if_pos this]
  rfl
theorem draw {wd : Str → Option (Option Str)} {P : List Df} {i : Nat} (p : P[i]? = some (.tx 2 4 L_draw)) (f : Nat) (L : Int) (h0 : 0 < L) (h1 : L ≤ 1000000) {k : Int} (hk : k < 1000000) {g : Gen} (hg : G k g) : ∃ r g', callF wd 100 P (f + 1) i [.gn, .d (.int L)] g = .ok (.int r) g' ∧ 0 ≤ r ∧ r < L ∧ G (k + 1) g' := by
  have hsn : SeqAt.shaped (.list []) = true := by decide
  have hgl := hg.gl
  have ht0 := hg.t0
  have htk := hg.tk
  obtain ⟨ns', n1, n2, n3⟩ := draw_whl (F := ⟨callF wd 100 P f, wd⟩) (n := 100) (env := [.gn, .fz (.int L), .un, .un]) rfl g.great 100 g rfl (by omega)
  rw [callF_tx p]
  have hL2 : L < 1073741824 := by omega
  have st : exSs ⟨callF wd 100 P f, wd⟩ 100 L_draw [.gn, .fz (.int L), .un, .un] g = exSs ⟨callF wd 100 P f, wd⟩ 100 L_draw.tail [.gn, .fz (.int L), .un, .un] { g with great := ns' } := by
    have e : L_draw = .whl wT wB :: L_draw.tail := rfl
    rw [e, exsx_cons, bd_ap, exx_whl, n3]
    rfl
  have st2 : ((M.ofO (List.mapM slOf [.gn, .d (.int L)])).bd fun sl => (exSs ⟨callF wd 100 P f, wd⟩ 100 L_draw (sl ++ List.replicate (4 - 2) Sl.un)).bd endD) g = ((exSs ⟨callF wd 100 P f, wd⟩ 100 L_draw [.gn, .fz (.int L), .un, .un]).bd endD) g := rfl
  rw [st2, bd_ap, st]
  clear st st2 n3
  rcases n2 with rfl | ⟨z, r, rfl, hz⟩
  · have b1 : -18446744073709551616 < g.turns + 1 ∧ g.turns + 1 < 18446744073709551616 := by omega
    refine ⟨((((g.seed * 48271 + (g.turns + 1) * (g.turns + 1) * 16807 + (g.turns + 1)) % 2147483647) * 69621 + 12345) % 2147483629 * 40014 + (g.turns + 1)) % 2147483563 / 64 % L, { g with great := [], turns := g.turns + 1 }, ?_, Int.emod_nonneg _ (by omega), Int.emod_lt_of_pos _ h0, ⟨by simp, by simp; omega, by simp; omega⟩⟩
    simp [L_draw, ofO_some, M.pu_bd, exsx_nil, exsx_cons, exx_asg, exx_par, exx_ret, exx_retN, exx_iff, exx_for, exx_whl, exx_raise, exx_gput, evx_c, evx_v, evx_bin, evx_cmp, evx_chain, evx_and, evx_or, evx_not, evx_tup, evx_lst, evx_ix, evx_sl, evx_bf, evx_call, evx_gix, evx_ite, evsx_nil, evsx_cons, evT, evO, evOT, Env.get, bf_one, bf1, isi_str, isi_tup, isStr, isTupD, asD, truD, cmpD, cmpOp, eqE, nilEq, solid, endD, slOf, dOf, toInt, seqOf, seqE, seqS, seqJ, setTg, setTgs, List.mapM_cons, List.mapM_nil, Option.bind, Option.map, bd_ap, pu_ap, gx_great, gx_seed, gx_turns, gp_turns, eqD, ints_sh, ints_nil, hsn, zero_s, binD, opD, addD, mulD, modD, fdivD, intD, h0, hL2, b1]
  · have nl : (z :: r).length ≤ 63 := by omega
    refine ⟨z % L, { g with great := z / L :: r }, ?_, Int.emod_nonneg _ (by omega), Int.emod_lt_of_pos _ h0, ⟨by simpa using nl, by simpa using ht0, by simp; omega⟩⟩
    have ad := iL_add (z / L) r (by simpa using nl)
    simp [L_draw, ofO_some, M.pu_bd, exsx_nil, exsx_cons, exx_asg, exx_par, exx_ret, exx_retN, exx_iff, exx_for, exx_whl, exx_raise, exx_gput, evx_c, evx_v, evx_bin, evx_cmp, evx_chain, evx_and, evx_or, evx_not, evx_tup, evx_lst, evx_ix, evx_sl, evx_bf, evx_call, evx_gix, evx_ite, evsx_nil, evsx_cons, evT, evO, evOT, Env.get, bf_one, bf1, isi_str, isi_tup, isStr, isTupD, asD, truD, cmpD, cmpOp, eqE, nilEq, solid, endD, slOf, dOf, toInt, seqOf, seqE, seqS, seqJ, setTg, setTgs, List.mapM_cons, List.mapM_nil, Option.bind, Option.map, bd_ap, pu_ap, gx_great, gp_great, eqD, ints_sh, ints_nil, hsn, zero_s, one_s, ix_ints, sl_ints, binD, opD, modD, fdivD, intD, ad, h0, hL2]
theorem itD_list {xs : List D} {r : Int} (h0 : 0 ≤ r) (h1 : r < xs.length) : ∃ x, x ∈ xs ∧ itD (.list xs) (.int r) = some x := by
  have hn : r.toNat < xs.length := by omega
  have hneg : ¬ r < 0 := by omega
  refine ⟨xs[r.toNat], List.getElem_mem hn, ?_⟩
  simp [itD, atI, ixN, h0, h1, hn]
theorem law_of {wd : Str → Option (Option Str)} {P : List Df} {i j : Nat} (p : P[j]? = some (.tx 2 4 L_draw)) (q : P[i]? = some (.tx 2 2 (L_of j))) (f : Nat) {xs : List D} (h0 : xs ≠ []) (h1 : xs.length ≤ 1000) {k : Int} (hk : k < 1000000) {g : Gen} (hg : G k g) : ∃ x g', callF wd 100 P (f + 2) i [.gn, .d (.list xs)] g = .ok x g' ∧ x ∈ xs ∧ G (k + 1) g' := by
  have hl : 0 < xs.length := List.length_pos_iff.mpr h0
  obtain ⟨r, g', e, r0, r1, hg'⟩ := draw (wd := wd) p f xs.length (by omega) (by omega) hk hg
  obtain ⟨x, hx, ex⟩ := itD_list r0 r1
  refine ⟨x, g', ?_, hx, hg'⟩
  rw [callF_tx q]
  simp [L_of, ofO_some, M.pu_bd, exsx_nil, exsx_cons, exx_asg, exx_par, exx_ret, exx_retN, exx_iff, exx_for, exx_whl, exx_raise, exx_gput, evx_c, evx_v, evx_bin, evx_cmp, evx_chain, evx_and, evx_or, evx_not, evx_tup, evx_lst, evx_ix, evx_sl, evx_bf, evx_call, evx_gix, evx_ite, evsx_nil, evsx_cons, evT, evO, evOT, Env.get, bf_one, bf1, isi_str, isi_tup, isStr, isTupD, asD, truD, cmpD, cmpOp, eqE, nilEq, solid, endD, slOf, dOf, toInt, seqOf, seqE, seqS, seqJ, setTg, setTgs, List.mapM_cons, List.mapM_nil, Option.bind, Option.map, bd_ap, pu_ap, lenD, e, ixD, ex]
theorem rng_some {n : Int} (h : 0 ≤ n) (h1 : n ≤ 1000000) : ∃ ds, rngD 0 n = some ds ∧ ds.length = n.toNat := by
  have c : -(2 ^ 62) ≤ (0 : Int) ∧ (0 : Int) < 2 ^ 62 ∧ -(2 ^ 62) ≤ n ∧ n < 2 ^ 62 := by omega
  refine ⟨_, by unfold rngD; rw [if_pos c], by simp⟩
theorem mapB_st {h : D → M (Option D)} {P : D → Prop} {c K : Int} (hc : 0 ≤ c) : ∀ (ds : List D) (k : Int) (g : Gen), G k g → k + c * ds.length < K → (∀ d ∈ ds, ∀ k g, k < K → G k g → ∃ y g', h d g = .ok (some y) g' ∧ P y ∧ G (k + c) g') → ∃ ys g', mapB h ds g = .ok ys g' ∧ ys.length = ds.length ∧ (∀ y ∈ ys, P y) ∧ G (k + c * ds.length) g'
  | [], k, g, hg, _, _ => ⟨[], g, rfl, rfl, by simp, by simpa using hg⟩
  | d :: ds, k, g, hg, hk, H => by
    have e : c * ((d :: ds).length : Int) = c + c * ds.length := by
      rw [List.length_cons, Int.natCast_add, Int.mul_add]
      simp [Int.add_comm]
    have hp : 0 ≤ c * (ds.length : Int) := Int.mul_nonneg hc (by omega)
    rw [e] at hk ⊢
    obtain ⟨y, g1, e1, p1, hg1⟩ := H d (by simp) k g (by omega) hg
    obtain ⟨ys, g2, e2, l2, p2, hg2⟩ := mapB_st hc ds (k + c) g1 hg1 (by omega) fun x hx => H x (by simp [hx])
    refine ⟨y :: ys, g2, ?_, by simp [l2], ?_, by rw [← Int.add_assoc]; exact hg2⟩
    · simp [mapB, bd_ap, e1, e2, pu_ap]
    · intro z hz
      rcases List.mem_cons.mp hz with rfl | hz
      · exact p1
      · exact p2 z hz
theorem ev_lcS {F : Fns} {env : PD.Env} {tg : Tg} {it : I} {t : Option E} {e : E} {w : List Nat} {ds ys : List D} {g g1 g2 : Gen} (hi : evI F it env g = .ok ds g1) (hm : mapB (lcF F env tg t e w) ds g1 = .ok ys g2) (hl : ys.length ≤ sizeLine) : ev F (.lc tg it t e w) env g = .ok (.d (.list ys)) g2 := by
  have h : ev F (.lc tg it t e w) env = (evI F it env).bd fun ds => (mapB (lcF F env tg t e w) ds).bd fun ys => if ys.length ≤ sizeLine then .pu (.d (.list ys)) else .stuck := by
    simp only [ev]; rfl
  rw [h, bd_ap, hi]
  show ((mapB (lcF F env tg t e w) ds).bd _) g1 = _
  rw [bd_ap, hm]
  simp only [if_pos hl]
  rfl
theorem for_seed {B : PD.Env → M Fl} {a : Sl} (hB : ∀ (i j : Int), ∃ s, B [a, .fz (.int i), .fz (.int j)] = .pu (.nx [a, .fz (.int s), .fz (.int j)])) : ∀ (ns : List Int) (i : Int) (x : Sl), ∃ s x', forB (.n 2) B (ns.map .int) [a, .fz (.int i), x] = .pu (.nx [a, .fz (.int s), x'])
  | [], i, x => ⟨i, x, rfl⟩
  | n :: ns, i, x => by
    obtain ⟨s, hs⟩ := hB i n
    obtain ⟨s2, x2, e⟩ := for_seed hB ns s (.fz (.int n))
    refine ⟨s2, x2, ?_⟩
    rw [← e]
    simp [forB, setTg, ofO_some, M.pu_bd, hs]
def bigD (t : Int) : D → Option D
  | .int n => if t ≤ n then some (.int n) else none
  | _ => none
theorem big_map (t : Int) : ∀ ns : List Int, (ns.map PyData.int).filterMap (bigD t) = (ns.filter fun n => decide (t ≤ n)).map .int
  | [] => rfl
  | n :: ns => by
    have h := big_map t ns
    by_cases c : t ≤ n
    · have e : bigD t (.int n) = some (.int n) := by simp [bigD, c]
      rw [List.map_cons, List.filterMap_cons, e, h, List.filter_cons]
      simp [c]
    · have e : bigD t (.int n) = none := by simp [bigD, c]
      rw [List.map_cons, List.filterMap_cons, e, h, List.filter_cons]
      simp [c]
theorem law_begun {wd : Str → Option (Option Str)} {P : List Df} {i : Nat} {s0 : Int} (p : P[i]? = some (.tx 1 3 (L_begun s0))) (f : Nat) (ns : List Int) (hl : ns.length ≤ 63) : ∃ gg, callF wd 100 P (f + 1) i [.sc ns] = .pu (gDict gg) ∧ G 0 gg := by
  have p18 : powD (.int 10) (.int 18) = some (.int (10 ^ 18)) := by
    have c : (0 : Int) ≤ 18 ∧ (18 : Int) ≤ 1000000 ∧ (10 : Int).natAbs < 2 ^ 64 := by decide
    simp only [powD]
    rw [if_pos c]
    rfl
  obtain ⟨s, x', hf⟩ := for_seed (B := exSs ⟨callF wd 100 P f, wd⟩ 100 [(.asg (.n 1) (.bin .Mod (.bf .int [(.bin .Add (.bin .Add (.bin .Mult (.v 1) (.c (.int (69621)))) (.bin .Mod (.bf .int [(.v 2)]) (.c (.int (2147483629))))) (.c (.int (7))))]) (.c (.int (2147483647)))))]) (a := .sc ns) (fun i j => ⟨(i * 69621 + j % 2147483629 + 7) % 2147483647, by
    simp [ofO_some, M.pu_bd, exsx_nil, exsx_cons, exx_asg, exx_par, exx_ret, exx_retN, exx_iff, exx_for, exx_whl, exx_raise, exx_gput, evx_c, evx_v, evx_bin, evx_cmp, evx_chain, evx_and, evx_or, evx_not, evx_tup, evx_lst, evx_ix, evx_sl, evx_bf, evx_call, evx_gix, evx_ite, evsx_nil, evsx_cons, evT, evO, evOT, Env.get, bf_one, bf1, isi_str, isi_tup, isStr, isTupD, asD, truD, cmpD, cmpOp, eqE, nilEq, solid, endD, slOf, dOf, toInt, seqOf, seqE, seqS, seqJ, setTg, setTgs, List.mapM_cons, List.mapM_nil, Option.bind, Option.map, binD, opD, addD, mulD, modD, intD]⟩) ns s0 .un
  have hm : mapB (lcF ⟨callF wd 100 P f, wd⟩ [.sc ns, .fz (.int s), x'] (.n 2) (some (.cmp .GtE (.v 2) (.bin .Pow (.c (.int 10)) (.c (.int 18))))) (.v 2) [2]) (ns.map .int) = .pu ((ns.filter fun n => decide ((10 : Int) ^ 18 ≤ n)).map .int) := by
    rw [← big_map]
    refine mapB_pu fun d hd => ?_
    obtain ⟨n, hn, rfl⟩ := List.mem_map.mp hd
    by_cases c : (10 : Int) ^ 18 ≤ n
    · simp only [bigD, if_pos c]
      have c' : (1000000000000000000 : Int) ≤ n := by simpa using c
      simp [lcF, wipeE, ofO_some, M.pu_bd, exsx_nil, exsx_cons, exx_asg, exx_par, exx_ret, exx_retN, exx_iff, exx_for, exx_whl, exx_raise, exx_gput, evx_c, evx_v, evx_bin, evx_cmp, evx_chain, evx_and, evx_or, evx_not, evx_tup, evx_lst, evx_ix, evx_sl, evx_bf, evx_call, evx_gix, evx_ite, evsx_nil, evsx_cons, evT, evO, evOT, Env.get, bf_one, bf1, isi_str, isi_tup, isStr, isTupD, asD, truD, cmpD, cmpOp, eqE, nilEq, solid, endD, slOf, dOf, toInt, seqOf, seqE, seqS, seqJ, setTg, setTgs, List.mapM_cons, List.mapM_nil, Option.bind, Option.map, binD, opD, p18, leD, c', calm_pu]
    · simp only [bigD, if_neg c]
      have c' : ¬ (1000000000000000000 : Int) ≤ n := by simpa using c
      simp [lcF, wipeE, ofO_some, M.pu_bd, exsx_nil, exsx_cons, exx_asg, exx_par, exx_ret, exx_retN, exx_iff, exx_for, exx_whl, exx_raise, exx_gput, evx_c, evx_v, evx_bin, evx_cmp, evx_chain, evx_and, evx_or, evx_not, evx_tup, evx_lst, evx_ix, evx_sl, evx_bf, evx_call, evx_gix, evx_ite, evsx_nil, evsx_cons, evT, evO, evOT, Env.get, bf_one, bf1, isi_str, isi_tup, isStr, isTupD, asD, truD, cmpD, cmpOp, eqE, nilEq, solid, endD, slOf, dOf, toInt, seqOf, seqE, seqS, seqJ, setTg, setTgs, List.mapM_cons, List.mapM_nil, Option.bind, Option.map, binD, opD, p18, leD, c', calm_pu]
  have hfl : (ns.filter fun n => decide ((10 : Int) ^ 18 ≤ n)).length ≤ 63 := Nat.le_trans (List.length_filter_le _ _) hl
  have el := ev_lc (F := ⟨callF wd 100 P f, wd⟩) (env := [.sc ns, .fz (.int s), x']) (it := .e (.v 0)) (by simp [evI, ofO_some, M.pu_bd, exsx_nil, exsx_cons, exx_asg, exx_par, exx_ret, exx_retN, exx_iff, exx_for, exx_whl, exx_raise, exx_gput, evx_c, evx_v, evx_bin, evx_cmp, evx_chain, evx_and, evx_or, evx_not, evx_tup, evx_lst, evx_ix, evx_sl, evx_bf, evx_call, evx_gix, evx_ite, evsx_nil, evsx_cons, evT, evO, evOT, Env.get, bf_one, bf1, isi_str, isi_tup, isStr, isTupD, asD, truD, cmpD, cmpOp, eqE, nilEq, solid, endD, slOf, dOf, toInt, seqOf, seqE, seqS, seqJ, setTg, setTgs, List.mapM_cons, List.mapM_nil, Option.bind, Option.map, seqE]) hm (by rw [List.length_map, sizeLine_eq]; omega)
  refine ⟨⟨ns.filter fun n => decide ((10 : Int) ^ 18 ≤ n), s, 0⟩, ?_, ⟨hfl, by simp, by simp⟩⟩
  rw [callF_tx p]
  have ed : ∀ es env, ev ⟨callF wd 100 P f, wd⟩ (.dict ["great", "seed", "turns"] es) env = (evs ⟨callF wd 100 P f, wd⟩ es env).bd fun xs => (M.ofO (xs.mapM dOf)).bd fun ds => if (["great", "seed", "turns"] : List Str).length = ds.length ∧ (["great", "seed", "turns"] : List Str).Nodup ∧ (["great", "seed", "turns"] : List Str).length ≤ 15 then .pu (.d (.dict ((["great", "seed", "turns"] : List Str).map PyData.str |>.zip ds))) else .stuck := fun es env => by simp only [ev]
  have nd : (["great", "seed", "turns"] : List Str).Nodup := by decide
  simp [L_begun, ofO_some, M.pu_bd, exsx_nil, exsx_cons, exx_asg, exx_par, exx_ret, exx_retN, exx_iff, exx_for, exx_whl, exx_raise, exx_gput, evx_c, evx_v, evx_bin, evx_cmp, evx_chain, evx_and, evx_or, evx_not, evx_tup, evx_lst, evx_ix, evx_sl, evx_bf, evx_call, evx_gix, evx_ite, evsx_nil, evsx_cons, evT, evO, evOT, Env.get, bf_one, bf1, isi_str, isi_tup, isStr, isTupD, asD, truD, cmpD, cmpOp, eqE, nilEq, solid, endD, slOf, dOf, toInt, seqOf, seqE, seqS, seqJ, setTg, setTgs, List.mapM_cons, List.mapM_nil, Option.bind, Option.map, evJ, hf, el, ed, nd, gDict]
theorem forB_st {tg : Nat} {B : PD.Env → M Fl} {c K : Int} {I : PD.Env → Prop} (hc : 0 ≤ c) (hs : ∀ env d, I env → ∃ env', setTg env (.n tg) d = some env' ∧ I env' ∧ env'[tg]? = some (.fz d)) : ∀ (ds : List D) (k : Int) (g : Gen) (env : PD.Env), I env → G k g → k + c * ds.length < K → (∀ d ∈ ds, ∀ env k g, I env → env[tg]? = some (.fz d) → k < K → G k g → ∃ env' g', B env g = .ok (.nx env') g' ∧ I env' ∧ G (k + c) g') → ∃ env' g', forB (.n tg) B ds env g = .ok (.nx env') g' ∧ I env' ∧ G (k + c * ds.length) g'
  | [], k, g, env, hi, hg, _, _ => ⟨env, g, rfl, hi, by simpa using hg⟩
  | d :: ds, k, g, env, hi, hg, hk, H => by
    have e : c * ((d :: ds).length : Int) = c + c * ds.length := by
      rw [List.length_cons, Int.natCast_add, Int.mul_add]
      simp [Int.add_comm]
    have hp : 0 ≤ c * (ds.length : Int) := Int.mul_nonneg hc (by omega)
    rw [e] at hk ⊢
    obtain ⟨env1, s1, s2, s3⟩ := hs env d hi
    obtain ⟨env2, g2, e2, i2, hg2⟩ := H d (by simp) env1 k g s2 s3 (by omega) hg
    obtain ⟨env3, g3, e3, i3, hg3⟩ := forB_st hc hs ds (k + c) g2 env2 i2 hg2 (by omega) fun x hx => H x (by simp [hx])
    refine ⟨env3, g3, ?_, i3, by rw [← Int.add_assoc]; exact hg3⟩
    show ((M.ofO (setTg env (.n tg) d)).bd _) g = _
    rw [s1, bd_ap]
    show ((B env1).bd _) g = _
    rw [bd_ap, e2]
    exact e3
theorem sq {F : Fns} {n : Nat} {s : Sm} {r : List Sm} {env e : PD.Env} {g g' : Gen} (h : exS F n s env g = .ok (.nx e) g') : exSs F n (s :: r) env g = exSs F n r e g' := by
  rw [exsx_cons, bd_ap, h]
end PD
end
section
set_option Elab.async false
set_option linter.all false
set_option maxRecDepth 100000
set_option maxHeartbeats 4000000
namespace PD
open PySem PySem.Spec L2

/-! ### the program's setups, for any law -/
def L_is_word : List Sm := [(.ret (.and (.bf (.isinst ["str"]) [(.v 0)]) (.cmp .In (.v 0) (.v 1))))]
def L_is_tuple : List Sm := [(.ret (.and (.bf (.isinst ["tuple"]) [(.v 0)]) (.chain .LtE .LtE (.v 1) (.bf .len [(.v 0)]) (.v 2))))]
def L_is_kind : List Sm := [(.ret (.and (.call 1 [(.v 0), (.c (.int (1))), (.c (.int (5)))]) (.bf .all [(.lc (.n 1) (.e (.v 0)) none (.call 0 [(.v 1), (.c (.tuple [(.str "group"), (.str "front"), (.str "read"), (.str "write"), (.str "raw"), (.str "plain"), (.str "hold"), (.str "again")]))]) [1])])))]
def L_is_script : List Sm := [(.ret (.and (.call 1 [(.v 0), (.c (.int (0))), (.c (.int (6)))]) (.bf .all [(.lc (.n 1) (.e (.v 0)) none (.call 0 [(.v 1), (.c (.tuple [(.str "group"), (.str "give"), (.str "go"), (.str "wait"), (.str "listen"), (.str "take"), (.str "plain")]))]) [1])])))]
def L_are_rules : List Sm := [(.iff (.not (.call 1 [(.v 0), (.c (.int (3))), (.c (.int (3)))])) [(.ret (.c (.bool false)))] []), (.asg (.t [1, 2, 3]) (.v 0)), (.ret (.and (.call 0 [(.v 1), (.c (.tuple [(.str "stop"), (.str "fail"), (.str "wait")]))]) (.and (.call 0 [(.v 2), (.c (.tuple [(.str "go"), (.str "stop")]))]) (.call 0 [(.v 3), (.c (.tuple [(.str "go"), (.str "stop")]))]))))]
def L_kinds_fault : List Sm := [(.iff (.not (.call 1 [(.v 0), (.c (.int (1))), (.c (.int (3)))])) [(.ret (.tup [(.c (.str "kinds"))]))] []), (.for_ (.t [1, 2]) (.enum (.v 0)) [(.iff (.not (.call 2 [(.v 2)])) [(.ret (.tup [(.c (.str "kinds")), (.v 1)]))] [])]), (.ret (.c .none))]
def L_shell_fault : List Sm := [(.iff (.not (.call 1 [(.v 0), (.bf .len [(.c (.tuple [(.str "fore"), (.str "back"), (.str "front"), (.str "behind")]))]), (.bf .len [(.c (.tuple [(.str "fore"), (.str "back"), (.str "front"), (.str "behind")]))])])) [(.ret (.tup [(.c (.str "shell"))]))] []), (.for_ (.t [1, 2]) (.enum (.v 0)) [(.iff (.not (.call 3 [(.v 2)])) [(.ret (.tup [(.c (.str "shell")), (.v 1)]))] [])]), (.ret (.c .none))]
def L_setup_fault : List Sm := [(.iff (.not (.call 1 [(.v 0), (.c (.int (3))), (.c (.int (3)))])) [(.ret (.tup []))] []), (.asg (.t [2, 3, 4]) (.v 0)), (.asg (.n 1) (.call 5 [(.v 2)])), (.iff (.cmp .IsNot (.v 1) (.c .none)) [(.ret (.v 1))] []), (.iff (.not (.call 4 [(.v 3)])) [(.ret (.tup [(.c (.str "rules"))]))] []), (.ret (.call 6 [(.v 4)]))]
def L_need_setup : List Sm := [(.asg (.n 1) (.call 7 [(.v 0)])), (.iff (.cmp .IsNot (.v 1) (.c .none)) [(.raise "BadSetup" (.v 1))] []), (.ret (.v 0))]
structure Su (wd : Str → Option (Option Str)) (P : List Df) : Prop where
  h0 : P[0]? = some (.tx 2 2 L_is_word)
  h1 : P[1]? = some (.tx 3 3 L_is_tuple)
  h2 : P[2]? = some (.tx 1 2 L_is_kind)
  h3 : P[3]? = some (.tx 1 2 L_is_script)
  h4 : P[4]? = some (.tx 1 4 L_are_rules)
  h5 : P[5]? = some (.tx 1 3 L_kinds_fault)
  h6 : P[6]? = some (.tx 1 3 L_shell_fault)
  h7 : P[7]? = some (.tx 1 5 L_setup_fault)
section
variable {wd : Str → Option (Option Str)} {P : List Df} (S : Su wd P)
include S

theorem is_word (f : Nat) (d : D) (ws : List Str) : callF wd 100 P (f + 1) 0 [.d d, .d (.tuple (ws.map .str))] = .pu (.bool (wordB d ws)) := by
  rw [callF_tx S.h0]
  cases d with
  | str x => simp [L_is_word, ofO_some, M.pu_bd, exsx_nil, exsx_cons, exx_asg, exx_par, exx_ret, exx_retN, exx_iff, exx_for, exx_whl, exx_raise, exx_gput, evx_c, evx_v, evx_bin, evx_cmp, evx_chain, evx_and, evx_or, evx_not, evx_tup, evx_lst, evx_ix, evx_sl, evx_bf, evx_call, evx_gix, evx_ite, evsx_nil, evsx_cons, evT, evO, evOT, Env.get, bf_one, bf1, isi_str, isi_tup, isStr, isTupD, asD, truD, cmpD, cmpOp, eqE, nilEq, solid, endD, slOf, dOf, toInt, seqOf, seqE, seqS, seqJ, setTg, setTgs, List.mapM_cons, List.mapM_nil, Option.bind, Option.map, mem_strs, wordB]
  | _ => simp [L_is_word, ofO_some, M.pu_bd, exsx_nil, exsx_cons, exx_asg, exx_par, exx_ret, exx_retN, exx_iff, exx_for, exx_whl, exx_raise, exx_gput, evx_c, evx_v, evx_bin, evx_cmp, evx_chain, evx_and, evx_or, evx_not, evx_tup, evx_lst, evx_ix, evx_sl, evx_bf, evx_call, evx_gix, evx_ite, evsx_nil, evsx_cons, evT, evO, evOT, Env.get, bf_one, bf1, isi_str, isi_tup, isStr, isTupD, asD, truD, cmpD, cmpOp, eqE, nilEq, solid, endD, slOf, dOf, toInt, seqOf, seqE, seqS, seqJ, setTg, setTgs, List.mapM_cons, List.mapM_nil, Option.bind, Option.map, wordB]
def tupB (d : D) (lo hi : Int) : Bool := match d with
  | .tuple xs => decide (lo ≤ xs.length ∧ xs.length ≤ hi)
  | _ => false
theorem is_tuple (f : Nat) (d : D) (lo hi : Int) : callF wd 100 P (f + 1) 1 [.d d, .d (.int lo), .d (.int hi)] = .pu (.bool (tupB d lo hi)) := by
  rw [callF_tx S.h1]
  cases d with
  | tuple xs =>
    by_cases h : lo ≤ (xs.length : Int)
    · simp [L_is_tuple, ofO_some, M.pu_bd, exsx_nil, exsx_cons, exx_asg, exx_par, exx_ret, exx_retN, exx_iff, exx_for, exx_whl, exx_raise, exx_gput, evx_c, evx_v, evx_bin, evx_cmp, evx_chain, evx_and, evx_or, evx_not, evx_tup, evx_lst, evx_ix, evx_sl, evx_bf, evx_call, evx_gix, evx_ite, evsx_nil, evsx_cons, evT, evO, evOT, Env.get, bf_one, bf1, isi_str, isi_tup, isStr, isTupD, asD, truD, cmpD, cmpOp, eqE, nilEq, solid, endD, slOf, dOf, toInt, seqOf, seqE, seqS, seqJ, setTg, setTgs, List.mapM_cons, List.mapM_nil, Option.bind, Option.map, leD, lenD, tupB, h]
    · simp [L_is_tuple, ofO_some, M.pu_bd, exsx_nil, exsx_cons, exx_asg, exx_par, exx_ret, exx_retN, exx_iff, exx_for, exx_whl, exx_raise, exx_gput, evx_c, evx_v, evx_bin, evx_cmp, evx_chain, evx_and, evx_or, evx_not, evx_tup, evx_lst, evx_ix, evx_sl, evx_bf, evx_call, evx_gix, evx_ite, evsx_nil, evsx_cons, evT, evO, evOT, Env.get, bf_one, bf1, isi_str, isi_tup, isStr, isTupD, asD, truD, cmpD, cmpOp, eqE, nilEq, solid, endD, slOf, dOf, toInt, seqOf, seqE, seqS, seqJ, setTg, setTgs, List.mapM_cons, List.mapM_nil, Option.bind, Option.map, leD, lenD, tupB, h]
  | _ => simp [L_is_tuple, ofO_some, M.pu_bd, exsx_nil, exsx_cons, exx_asg, exx_par, exx_ret, exx_retN, exx_iff, exx_for, exx_whl, exx_raise, exx_gput, evx_c, evx_v, evx_bin, evx_cmp, evx_chain, evx_and, evx_or, evx_not, evx_tup, evx_lst, evx_ix, evx_sl, evx_bf, evx_call, evx_gix, evx_ite, evsx_nil, evsx_cons, evT, evO, evOT, Env.get, bf_one, bf1, isi_str, isi_tup, isStr, isTupD, asD, truD, cmpD, cmpOp, eqE, nilEq, solid, endD, slOf, dOf, toInt, seqOf, seqE, seqS, seqJ, setTg, setTgs, List.mapM_cons, List.mapM_nil, Option.bind, Option.map, tupB]

def acts : List Str := ["group", "front", "read", "write", "raw", "plain", "hold", "again"]
def steps : List Str := ["group", "give", "go", "wait", "listen", "take", "plain"]
def reads : List Str := ["stop", "fail", "wait"]
def lets : List Str := ["go", "stop"]
omit S in
theorem le_small {n : Nat} (h : (n : Int) ≤ 10) : n ≤ sizeLine := by rw [sizeLine_eq]; omega
theorem is_kind (f : Nat) (d : D) : callF wd 100 P (f + 2) 2 [.d d] = .pu (.bool (wordsB 1 5 acts d)) := by
  have hw := fun d => is_word S f d acts
  simp only [acts, List.map_cons, List.map_nil] at hw
  rw [callF_tx S.h2]
  cases d with
  | tuple xs =>
    by_cases h : (1 : Int) ≤ xs.length ∧ (xs.length : Int) ≤ 5
    · have hm := ev_lc (F := ⟨callF wd 100 P (f + 1), wd⟩) (env := [.fz (.tuple xs), .un]) (tg := .n 1) (it := .e (.v 0)) (t := none) (e := .call 0 [(.v 1), (.c (.tuple [(.str "group"), (.str "front"), (.str "read"), (.str "write"), (.str "raw"), (.str "plain"), (.str "hold"), (.str "again")]))]) (w := [1]) (ds := xs) (ys := xs.map fun d => .bool (wordB d acts))
        (by simp [evI, ofO_some, M.pu_bd, exsx_nil, exsx_cons, exx_asg, exx_par, exx_ret, exx_retN, exx_iff, exx_for, exx_whl, exx_raise, exx_gput, evx_c, evx_v, evx_bin, evx_cmp, evx_chain, evx_and, evx_or, evx_not, evx_tup, evx_lst, evx_ix, evx_sl, evx_bf, evx_call, evx_gix, evx_ite, evsx_nil, evsx_cons, evT, evO, evOT, Env.get, bf_one, bf1, isi_str, isi_tup, isStr, isTupD, asD, truD, cmpD, cmpOp, eqE, nilEq, solid, endD, slOf, dOf, toInt, seqOf, seqE, seqS, seqJ, setTg, setTgs, List.mapM_cons, List.mapM_nil, Option.bind, Option.map]) (by
          rw [mapB_pu (h := fun d => some (.bool (wordB d acts))), filterMap_some]
          intro d _
          simp [lcF, ofO_some, M.pu_bd, exsx_nil, exsx_cons, exx_asg, exx_par, exx_ret, exx_retN, exx_iff, exx_for, exx_whl, exx_raise, exx_gput, evx_c, evx_v, evx_bin, evx_cmp, evx_chain, evx_and, evx_or, evx_not, evx_tup, evx_lst, evx_ix, evx_sl, evx_bf, evx_call, evx_gix, evx_ite, evsx_nil, evsx_cons, evT, evO, evOT, Env.get, bf_one, bf1, isi_str, isi_tup, isStr, isTupD, asD, truD, cmpD, cmpOp, eqE, nilEq, solid, endD, slOf, dOf, toInt, seqOf, seqE, seqS, seqJ, setTg, setTgs, List.mapM_cons, List.mapM_nil, Option.bind, Option.map, wipeE, hw, calm_pu, acts]) (by simpa using le_small (by omega))
      simp [L_is_kind, ofO_some, M.pu_bd, exsx_nil, exsx_cons, exx_asg, exx_par, exx_ret, exx_retN, exx_iff, exx_for, exx_whl, exx_raise, exx_gput, evx_c, evx_v, evx_bin, evx_cmp, evx_chain, evx_and, evx_or, evx_not, evx_tup, evx_lst, evx_ix, evx_sl, evx_bf, evx_call, evx_gix, evx_ite, evsx_nil, evsx_cons, evT, evO, evOT, Env.get, bf_one, bf1, isi_str, isi_tup, isStr, isTupD, asD, truD, cmpD, cmpOp, eqE, nilEq, solid, endD, slOf, dOf, toInt, seqOf, seqE, seqS, seqJ, setTg, setTgs, List.mapM_cons, List.mapM_nil, Option.bind, Option.map, is_tuple S, tupB, h, hm, all_bools, wordsB]
    · simp [L_is_kind, ofO_some, M.pu_bd, exsx_nil, exsx_cons, exx_asg, exx_par, exx_ret, exx_retN, exx_iff, exx_for, exx_whl, exx_raise, exx_gput, evx_c, evx_v, evx_bin, evx_cmp, evx_chain, evx_and, evx_or, evx_not, evx_tup, evx_lst, evx_ix, evx_sl, evx_bf, evx_call, evx_gix, evx_ite, evsx_nil, evsx_cons, evT, evO, evOT, Env.get, bf_one, bf1, isi_str, isi_tup, isStr, isTupD, asD, truD, cmpD, cmpOp, eqE, nilEq, solid, endD, slOf, dOf, toInt, seqOf, seqE, seqS, seqJ, setTg, setTgs, List.mapM_cons, List.mapM_nil, Option.bind, Option.map, is_tuple S, tupB, h, wordsB]
  | _ => simp [L_is_kind, ofO_some, M.pu_bd, exsx_nil, exsx_cons, exx_asg, exx_par, exx_ret, exx_retN, exx_iff, exx_for, exx_whl, exx_raise, exx_gput, evx_c, evx_v, evx_bin, evx_cmp, evx_chain, evx_and, evx_or, evx_not, evx_tup, evx_lst, evx_ix, evx_sl, evx_bf, evx_call, evx_gix, evx_ite, evsx_nil, evsx_cons, evT, evO, evOT, Env.get, bf_one, bf1, isi_str, isi_tup, isStr, isTupD, asD, truD, cmpD, cmpOp, eqE, nilEq, solid, endD, slOf, dOf, toInt, seqOf, seqE, seqS, seqJ, setTg, setTgs, List.mapM_cons, List.mapM_nil, Option.bind, Option.map, is_tuple S, tupB, wordsB]
theorem is_script (f : Nat) (d : D) : callF wd 100 P (f + 2) 3 [.d d] = .pu (.bool (wordsB 0 6 steps d)) := by
  have hw := fun d => is_word S f d steps
  simp only [steps, List.map_cons, List.map_nil] at hw
  rw [callF_tx S.h3]
  cases d with
  | tuple xs =>
    by_cases h : (0 : Int) ≤ xs.length ∧ (xs.length : Int) ≤ 6
    · have hm := ev_lc (F := ⟨callF wd 100 P (f + 1), wd⟩) (env := [.fz (.tuple xs), .un]) (tg := .n 1) (it := .e (.v 0)) (t := none) (e := .call 0 [(.v 1), (.c (.tuple [(.str "group"), (.str "give"), (.str "go"), (.str "wait"), (.str "listen"), (.str "take"), (.str "plain")]))]) (w := [1]) (ds := xs) (ys := xs.map fun d => .bool (wordB d steps))
        (by simp [evI, ofO_some, M.pu_bd, exsx_nil, exsx_cons, exx_asg, exx_par, exx_ret, exx_retN, exx_iff, exx_for, exx_whl, exx_raise, exx_gput, evx_c, evx_v, evx_bin, evx_cmp, evx_chain, evx_and, evx_or, evx_not, evx_tup, evx_lst, evx_ix, evx_sl, evx_bf, evx_call, evx_gix, evx_ite, evsx_nil, evsx_cons, evT, evO, evOT, Env.get, bf_one, bf1, isi_str, isi_tup, isStr, isTupD, asD, truD, cmpD, cmpOp, eqE, nilEq, solid, endD, slOf, dOf, toInt, seqOf, seqE, seqS, seqJ, setTg, setTgs, List.mapM_cons, List.mapM_nil, Option.bind, Option.map]) (by
          rw [mapB_pu (h := fun d => some (.bool (wordB d steps))), filterMap_some]
          intro d _
          simp [lcF, ofO_some, M.pu_bd, exsx_nil, exsx_cons, exx_asg, exx_par, exx_ret, exx_retN, exx_iff, exx_for, exx_whl, exx_raise, exx_gput, evx_c, evx_v, evx_bin, evx_cmp, evx_chain, evx_and, evx_or, evx_not, evx_tup, evx_lst, evx_ix, evx_sl, evx_bf, evx_call, evx_gix, evx_ite, evsx_nil, evsx_cons, evT, evO, evOT, Env.get, bf_one, bf1, isi_str, isi_tup, isStr, isTupD, asD, truD, cmpD, cmpOp, eqE, nilEq, solid, endD, slOf, dOf, toInt, seqOf, seqE, seqS, seqJ, setTg, setTgs, List.mapM_cons, List.mapM_nil, Option.bind, Option.map, wipeE, hw, calm_pu, steps]) (by simpa using le_small (by omega))
      simp [L_is_script, ofO_some, M.pu_bd, exsx_nil, exsx_cons, exx_asg, exx_par, exx_ret, exx_retN, exx_iff, exx_for, exx_whl, exx_raise, exx_gput, evx_c, evx_v, evx_bin, evx_cmp, evx_chain, evx_and, evx_or, evx_not, evx_tup, evx_lst, evx_ix, evx_sl, evx_bf, evx_call, evx_gix, evx_ite, evsx_nil, evsx_cons, evT, evO, evOT, Env.get, bf_one, bf1, isi_str, isi_tup, isStr, isTupD, asD, truD, cmpD, cmpOp, eqE, nilEq, solid, endD, slOf, dOf, toInt, seqOf, seqE, seqS, seqJ, setTg, setTgs, List.mapM_cons, List.mapM_nil, Option.bind, Option.map, is_tuple S, tupB, h, hm, all_bools, wordsB]
    · have h6 : ¬ ((xs.length : Int) ≤ 6) := by omega
      simp [L_is_script, ofO_some, M.pu_bd, exsx_nil, exsx_cons, exx_asg, exx_par, exx_ret, exx_retN, exx_iff, exx_for, exx_whl, exx_raise, exx_gput, evx_c, evx_v, evx_bin, evx_cmp, evx_chain, evx_and, evx_or, evx_not, evx_tup, evx_lst, evx_ix, evx_sl, evx_bf, evx_call, evx_gix, evx_ite, evsx_nil, evsx_cons, evT, evO, evOT, Env.get, bf_one, bf1, isi_str, isi_tup, isStr, isTupD, asD, truD, cmpD, cmpOp, eqE, nilEq, solid, endD, slOf, dOf, toInt, seqOf, seqE, seqS, seqJ, setTg, setTgs, List.mapM_cons, List.mapM_nil, Option.bind, Option.map, is_tuple S, tupB, h6, wordsB]
  | _ => simp [L_is_script, ofO_some, M.pu_bd, exsx_nil, exsx_cons, exx_asg, exx_par, exx_ret, exx_retN, exx_iff, exx_for, exx_whl, exx_raise, exx_gput, evx_c, evx_v, evx_bin, evx_cmp, evx_chain, evx_and, evx_or, evx_not, evx_tup, evx_lst, evx_ix, evx_sl, evx_bf, evx_call, evx_gix, evx_ite, evsx_nil, evsx_cons, evT, evO, evOT, Env.get, bf_one, bf1, isi_str, isi_tup, isStr, isTupD, asD, truD, cmpD, cmpOp, eqE, nilEq, solid, endD, slOf, dOf, toInt, seqOf, seqE, seqS, seqJ, setTg, setTgs, List.mapM_cons, List.mapM_nil, Option.bind, Option.map, is_tuple S, tupB, wordsB]
def rulesB (d : D) : Bool := match d with
  | .tuple [a, b, c] => wordB a reads && (wordB b lets && wordB c lets)
  | _ => false
theorem are_rules (f : Nat) (d : D) : callF wd 100 P (f + 2) 4 [.d d] = .pu (.bool (rulesB d)) := by
  have hr := fun d => is_word S f d reads
  have hl := fun d => is_word S f d lets
  simp only [reads, lets, List.map_cons, List.map_nil] at hr hl
  rw [callF_tx S.h4]
  cases d with
  | tuple xs =>
    by_cases h : xs.length = 3
    · match xs, h with
      | [a, b, c], _ =>
        cases h1 : wordB a reads <;> cases h2 : wordB b lets <;> simp [L_are_rules, ofO_some, M.pu_bd, exsx_nil, exsx_cons, exx_asg, exx_par, exx_ret, exx_retN, exx_iff, exx_for, exx_whl, exx_raise, exx_gput, evx_c, evx_v, evx_bin, evx_cmp, evx_chain, evx_and, evx_or, evx_not, evx_tup, evx_lst, evx_ix, evx_sl, evx_bf, evx_call, evx_gix, evx_ite, evsx_nil, evsx_cons, evT, evO, evOT, Env.get, bf_one, bf1, isi_str, isi_tup, isStr, isTupD, asD, truD, cmpD, cmpOp, eqE, nilEq, solid, endD, slOf, dOf, toInt, seqOf, seqE, seqS, seqJ, setTg, setTgs, List.mapM_cons, List.mapM_nil, Option.bind, Option.map, is_tuple S, tupB, rulesB, hr, hl, h1, h2, show wordB a [("stop" : Str), "fail", "wait"] = wordB a reads from rfl, show wordB b [("go" : Str), "stop"] = wordB b lets from rfl, show wordB c [("go" : Str), "stop"] = wordB c lets from rfl]
    · have h2 : ¬ ((3 : Int) ≤ xs.length ∧ (xs.length : Int) ≤ 3) := by omega
      have h3 : rulesB (.tuple xs) = false := by
        match xs, h with
        | [], _ => rfl
        | [_], _ => rfl
        | [_, _], _ => rfl
        | _ :: _ :: _ :: _ :: _, _ => rfl
      simp [L_are_rules, ofO_some, M.pu_bd, exsx_nil, exsx_cons, exx_asg, exx_par, exx_ret, exx_retN, exx_iff, exx_for, exx_whl, exx_raise, exx_gput, evx_c, evx_v, evx_bin, evx_cmp, evx_chain, evx_and, evx_or, evx_not, evx_tup, evx_lst, evx_ix, evx_sl, evx_bf, evx_call, evx_gix, evx_ite, evsx_nil, evsx_cons, evT, evO, evOT, Env.get, bf_one, bf1, isi_str, isi_tup, isStr, isTupD, asD, truD, cmpD, cmpOp, eqE, nilEq, solid, endD, slOf, dOf, toInt, seqOf, seqE, seqS, seqJ, setTg, setTgs, List.mapM_cons, List.mapM_nil, Option.bind, Option.map, is_tuple S, tupB, h2, h3]
  | _ => simp [L_are_rules, ofO_some, M.pu_bd, exsx_nil, exsx_cons, exx_asg, exx_par, exx_ret, exx_retN, exx_iff, exx_for, exx_whl, exx_raise, exx_gput, evx_c, evx_v, evx_bin, evx_cmp, evx_chain, evx_and, evx_or, evx_not, evx_tup, evx_lst, evx_ix, evx_sl, evx_bf, evx_call, evx_gix, evx_ite, evsx_nil, evsx_cons, evT, evO, evOT, Env.get, bf_one, bf1, isi_str, isi_tup, isStr, isTupD, asD, truD, cmpD, cmpOp, eqE, nilEq, solid, endD, slOf, dOf, toInt, seqOf, seqE, seqS, seqJ, setTg, setTgs, List.mapM_cons, List.mapM_nil, Option.bind, Option.map, is_tuple S, tupB, rulesB]

def bad (p : D → Bool) : Nat → List D → Option Nat
  | _, [] => none
  | k, x :: xs => if p x = true then bad p (k + 1) xs else some k
omit S in
theorem for_bad {B : PD.Env → M Fl} {w : Str} {p : D → Bool} {d : D} (hB : ∀ (k : Nat) (x : D), B [.fz d, .fz (.int k), .fz x] = if p x = true then .pu (.nx [.fz d, .fz (.int k), .fz x]) else .pu (.rt (.tuple [.str w, .int k]))) : ∀ (xs : List D) (k : Nat) (s1 s2 : Sl),
    (∃ s1' s2', bad p k xs = none ∧ forB (.t [1, 2]) B (enumD k xs) [.fz d, s1, s2] = .pu (.nx [.fz d, s1', s2'])) ∨
    (∃ i : Nat, bad p k xs = some i ∧ forB (.t [1, 2]) B (enumD k xs) [.fz d, s1, s2] = .pu (.rt (.tuple [.str w, .int i])))
  | [], k, s1, s2 => .inl ⟨s1, s2, rfl, rfl⟩
  | x :: xs, k, s1, s2 => by
    cases hp : p x with
    | true =>
      rcases for_bad hB xs (k + 1) (.fz (.int k)) (.fz x) with ⟨s1', s2', e1, e2⟩ | ⟨i, e1, e2⟩
      · refine .inl ⟨s1', s2', by simp [bad, hp, e1], ?_⟩
        rw [← e2]
        simp [enumD, forB, setTg, setTgs, ofO_some, M.pu_bd, hB, hp]
      · refine .inr ⟨i, by simp [bad, hp, e1], ?_⟩
        rw [← e2]
        simp [enumD, forB, setTg, setTgs, ofO_some, M.pu_bd, hB, hp]
    | false =>
      refine .inr ⟨k, by simp [bad, hp], ?_⟩
      simp [enumD, forB, setTg, setTgs, ofO_some, M.pu_bd, hB, hp]
omit S in
theorem body_bad {F : Fns} {n c : Nat} {w : Str} {p : D → Bool} {d : D} (hc : ∀ x, F.call c [.d x] = .pu (.bool (p x))) (k : Nat) (x : D) :
    exSs F n [.iff (.not (.call c [.v 2])) [.ret (.tup [.c (.str w), .v 1])] []] [.fz d, .fz (.int k), .fz x] = if p x = true then .pu (.nx [.fz d, .fz (.int k), .fz x]) else .pu (.rt (.tuple [.str w, .int k])) := by
  have h2 : (2 : Nat) ≤ sizeLine := by rw [sizeLine_eq]; omega
  cases hp : p x <;> simp [ofO_some, M.pu_bd, exsx_nil, exsx_cons, exx_asg, exx_par, exx_ret, exx_retN, exx_iff, exx_for, exx_whl, exx_raise, exx_gput, evx_c, evx_v, evx_bin, evx_cmp, evx_chain, evx_and, evx_or, evx_not, evx_tup, evx_lst, evx_ix, evx_sl, evx_bf, evx_call, evx_gix, evx_ite, evsx_nil, evsx_cons, evT, evO, evOT, Env.get, bf_one, bf1, isi_str, isi_tup, isStr, isTupD, asD, truD, cmpD, cmpOp, eqE, nilEq, solid, endD, slOf, dOf, toInt, seqOf, seqE, seqS, seqJ, setTg, setTgs, List.mapM_cons, List.mapM_nil, Option.bind, Option.map, hc, hp, h2]
def kindsF (d : D) : Option D := match d with
  | .tuple xs => if 1 ≤ xs.length ∧ xs.length ≤ 3 then (match bad (wordsB 1 5 acts) 0 xs with
    | none => none
    | some i => some (.tuple [.str "kinds", .int i])) else some (.tuple [.str "kinds"])
  | _ => some (.tuple [.str "kinds"])
def shellF (d : D) : Option D := match d with
  | .tuple xs => if xs.length = 4 then (match bad (wordsB 0 6 steps) 0 xs with
    | none => none
    | some i => some (.tuple [.str "shell", .int i])) else some (.tuple [.str "shell"])
  | _ => some (.tuple [.str "shell"])
def optD : Option D → D
  | none => .none
  | some d => d
theorem kinds_fault (f : Nat) (d : D) : callF wd 100 P (f + 3) 5 [.d d] = .pu (optD (kindsF d)) := by
  rw [callF_tx S.h5]
  cases d with
  | tuple xs =>
    by_cases h : 1 ≤ xs.length ∧ xs.length ≤ 3
    · have h' : (1 : Int) ≤ xs.length ∧ (xs.length : Int) ≤ 3 := by omega
      rcases for_bad (w := "kinds") (d := .tuple xs) (body_bad (F := ⟨callF wd 100 P (f + 2), wd⟩) (n := 100) (c := 2) (fun x => is_kind S f x)) xs 0 .un .un with ⟨s1', s2', e1, e2⟩ | ⟨i, e1, e2⟩
      · simp [L_kinds_fault, ofO_some, M.pu_bd, exsx_nil, exsx_cons, exx_asg, exx_par, exx_ret, exx_retN, exx_iff, exx_for, exx_whl, exx_raise, exx_gput, evx_c, evx_v, evx_bin, evx_cmp, evx_chain, evx_and, evx_or, evx_not, evx_tup, evx_lst, evx_ix, evx_sl, evx_bf, evx_call, evx_gix, evx_ite, evsx_nil, evsx_cons, evT, evO, evOT, Env.get, bf_one, bf1, isi_str, isi_tup, isStr, isTupD, asD, truD, cmpD, cmpOp, eqE, nilEq, solid, endD, slOf, dOf, toInt, seqOf, seqE, seqS, seqJ, setTg, setTgs, List.mapM_cons, List.mapM_nil, Option.bind, Option.map, evJ, is_tuple S, tupB, h', e2, kindsF, h, e1, optD]
      · simp [L_kinds_fault, ofO_some, M.pu_bd, exsx_nil, exsx_cons, exx_asg, exx_par, exx_ret, exx_retN, exx_iff, exx_for, exx_whl, exx_raise, exx_gput, evx_c, evx_v, evx_bin, evx_cmp, evx_chain, evx_and, evx_or, evx_not, evx_tup, evx_lst, evx_ix, evx_sl, evx_bf, evx_call, evx_gix, evx_ite, evsx_nil, evsx_cons, evT, evO, evOT, Env.get, bf_one, bf1, isi_str, isi_tup, isStr, isTupD, asD, truD, cmpD, cmpOp, eqE, nilEq, solid, endD, slOf, dOf, toInt, seqOf, seqE, seqS, seqJ, setTg, setTgs, List.mapM_cons, List.mapM_nil, Option.bind, Option.map, evJ, is_tuple S, tupB, h', e2, kindsF, h, e1, optD]
    · have h' : ¬ ((1 : Int) ≤ xs.length ∧ (xs.length : Int) ≤ 3) := by omega
      simp [L_kinds_fault, ofO_some, M.pu_bd, exsx_nil, exsx_cons, exx_asg, exx_par, exx_ret, exx_retN, exx_iff, exx_for, exx_whl, exx_raise, exx_gput, evx_c, evx_v, evx_bin, evx_cmp, evx_chain, evx_and, evx_or, evx_not, evx_tup, evx_lst, evx_ix, evx_sl, evx_bf, evx_call, evx_gix, evx_ite, evsx_nil, evsx_cons, evT, evO, evOT, Env.get, bf_one, bf1, isi_str, isi_tup, isStr, isTupD, asD, truD, cmpD, cmpOp, eqE, nilEq, solid, endD, slOf, dOf, toInt, seqOf, seqE, seqS, seqJ, setTg, setTgs, List.mapM_cons, List.mapM_nil, Option.bind, Option.map, is_tuple S, tupB, h', kindsF, h, optD, one_s]
  | _ => simp [L_kinds_fault, ofO_some, M.pu_bd, exsx_nil, exsx_cons, exx_asg, exx_par, exx_ret, exx_retN, exx_iff, exx_for, exx_whl, exx_raise, exx_gput, evx_c, evx_v, evx_bin, evx_cmp, evx_chain, evx_and, evx_or, evx_not, evx_tup, evx_lst, evx_ix, evx_sl, evx_bf, evx_call, evx_gix, evx_ite, evsx_nil, evsx_cons, evT, evO, evOT, Env.get, bf_one, bf1, isi_str, isi_tup, isStr, isTupD, asD, truD, cmpD, cmpOp, eqE, nilEq, solid, endD, slOf, dOf, toInt, seqOf, seqE, seqS, seqJ, setTg, setTgs, List.mapM_cons, List.mapM_nil, Option.bind, Option.map, is_tuple S, tupB, kindsF, optD, one_s]
theorem shell_fault (f : Nat) (d : D) : callF wd 100 P (f + 3) 6 [.d d] = .pu (optD (shellF d)) := by
  rw [callF_tx S.h6]
  cases d with
  | tuple xs =>
    by_cases h : xs.length = 4
    · have h' : (4 : Int) ≤ xs.length ∧ (xs.length : Int) ≤ 4 := by omega
      rcases for_bad (w := "shell") (d := .tuple xs) (body_bad (F := ⟨callF wd 100 P (f + 2), wd⟩) (n := 100) (c := 3) (fun x => is_script S f x)) xs 0 .un .un with ⟨s1', s2', e1, e2⟩ | ⟨i, e1, e2⟩
      · simp [L_shell_fault, ofO_some, M.pu_bd, exsx_nil, exsx_cons, exx_asg, exx_par, exx_ret, exx_retN, exx_iff, exx_for, exx_whl, exx_raise, exx_gput, evx_c, evx_v, evx_bin, evx_cmp, evx_chain, evx_and, evx_or, evx_not, evx_tup, evx_lst, evx_ix, evx_sl, evx_bf, evx_call, evx_gix, evx_ite, evsx_nil, evsx_cons, evT, evO, evOT, Env.get, bf_one, bf1, isi_str, isi_tup, isStr, isTupD, asD, truD, cmpD, cmpOp, eqE, nilEq, solid, endD, slOf, dOf, toInt, seqOf, seqE, seqS, seqJ, setTg, setTgs, List.mapM_cons, List.mapM_nil, Option.bind, Option.map, lenD, evJ, is_tuple S, tupB, h', e2, shellF, h, e1, optD]
      · simp [L_shell_fault, ofO_some, M.pu_bd, exsx_nil, exsx_cons, exx_asg, exx_par, exx_ret, exx_retN, exx_iff, exx_for, exx_whl, exx_raise, exx_gput, evx_c, evx_v, evx_bin, evx_cmp, evx_chain, evx_and, evx_or, evx_not, evx_tup, evx_lst, evx_ix, evx_sl, evx_bf, evx_call, evx_gix, evx_ite, evsx_nil, evsx_cons, evT, evO, evOT, Env.get, bf_one, bf1, isi_str, isi_tup, isStr, isTupD, asD, truD, cmpD, cmpOp, eqE, nilEq, solid, endD, slOf, dOf, toInt, seqOf, seqE, seqS, seqJ, setTg, setTgs, List.mapM_cons, List.mapM_nil, Option.bind, Option.map, lenD, evJ, is_tuple S, tupB, h', e2, shellF, h, e1, optD]
    · have h' : ¬ ((4 : Int) ≤ xs.length ∧ (xs.length : Int) ≤ 4) := by omega
      simp [L_shell_fault, ofO_some, M.pu_bd, exsx_nil, exsx_cons, exx_asg, exx_par, exx_ret, exx_retN, exx_iff, exx_for, exx_whl, exx_raise, exx_gput, evx_c, evx_v, evx_bin, evx_cmp, evx_chain, evx_and, evx_or, evx_not, evx_tup, evx_lst, evx_ix, evx_sl, evx_bf, evx_call, evx_gix, evx_ite, evsx_nil, evsx_cons, evT, evO, evOT, Env.get, bf_one, bf1, isi_str, isi_tup, isStr, isTupD, asD, truD, cmpD, cmpOp, eqE, nilEq, solid, endD, slOf, dOf, toInt, seqOf, seqE, seqS, seqJ, setTg, setTgs, List.mapM_cons, List.mapM_nil, Option.bind, Option.map, lenD, is_tuple S, tupB, h', shellF, h, optD, one_s]
  | _ => simp [L_shell_fault, ofO_some, M.pu_bd, exsx_nil, exsx_cons, exx_asg, exx_par, exx_ret, exx_retN, exx_iff, exx_for, exx_whl, exx_raise, exx_gput, evx_c, evx_v, evx_bin, evx_cmp, evx_chain, evx_and, evx_or, evx_not, evx_tup, evx_lst, evx_ix, evx_sl, evx_bf, evx_call, evx_gix, evx_ite, evsx_nil, evsx_cons, evT, evO, evOT, Env.get, bf_one, bf1, isi_str, isi_tup, isStr, isTupD, asD, truD, cmpD, cmpOp, eqE, nilEq, solid, endD, slOf, dOf, toInt, seqOf, seqE, seqS, seqJ, setTg, setTgs, List.mapM_cons, List.mapM_nil, Option.bind, Option.map, lenD, is_tuple S, tupB, shellF, optD, one_s]

def setupF (d : D) : Option D := match d with
  | .tuple [k, r, s] => (match kindsF k with
    | some p => some p
    | none => if rulesB r = true then shellF s else some (.tuple [.str "rules"]))
  | _ => some (.tuple [])
omit S in
theorem kindsF_tup {k p : D} (h : kindsF k = some p) : ∃ ds, p = .tuple ds := by
  unfold kindsF at h
  split at h
  · split at h
    · split at h
      · cases h
      · cases h; exact ⟨_, rfl⟩
    · cases h; exact ⟨_, rfl⟩
  · cases h; exact ⟨_, rfl⟩
omit S in
theorem shellF_tup {k p : D} (h : shellF k = some p) : ∃ ds, p = .tuple ds := by
  unfold shellF at h
  split at h
  · split at h
    · split at h
      · cases h
      · cases h; exact ⟨_, rfl⟩
    · cases h; exact ⟨_, rfl⟩
  · cases h; exact ⟨_, rfl⟩
omit S in
theorem setupF_not {xs : List D} (h : xs.length ≠ 3) : setupF (.tuple xs) = some (.tuple []) := by
  match xs, h with
  | [], _ => rfl
  | [_], _ => rfl
  | [_, _], _ => rfl
  | _ :: _ :: _ :: _ :: _, _ => rfl
theorem setup_fault (f : Nat) (d : D) : callF wd 100 P (f + 4) 7 [.d d] = .pu (optD (setupF d)) := by
  rw [callF_tx S.h7]
  cases d with
  | tuple xs =>
    by_cases h : xs.length = 3
    · match xs, h with
      | [k, r, s], _ =>
        have hk := kinds_fault S f k
        have hs := shell_fault S f s
        have hr := are_rules S (f + 1) r
        cases e1 : kindsF k with
        | some p =>
          obtain ⟨ds, rfl⟩ := kindsF_tup e1
          rw [e1] at hk
          simp [L_setup_fault, ofO_some, M.pu_bd, exsx_nil, exsx_cons, exx_asg, exx_par, exx_ret, exx_retN, exx_iff, exx_for, exx_whl, exx_raise, exx_gput, evx_c, evx_v, evx_bin, evx_cmp, evx_chain, evx_and, evx_or, evx_not, evx_tup, evx_lst, evx_ix, evx_sl, evx_bf, evx_call, evx_gix, evx_ite, evsx_nil, evsx_cons, evT, evO, evOT, Env.get, bf_one, bf1, isi_str, isi_tup, isStr, isTupD, asD, truD, cmpD, cmpOp, eqE, nilEq, solid, endD, slOf, dOf, toInt, seqOf, seqE, seqS, seqJ, setTg, setTgs, List.mapM_cons, List.mapM_nil, Option.bind, Option.map, is_tuple S, tupB, hk, optD, isD, setupF, e1]
        | none =>
          rw [e1] at hk
          cases e2 : rulesB r with
          | false => simp [L_setup_fault, ofO_some, M.pu_bd, exsx_nil, exsx_cons, exx_asg, exx_par, exx_ret, exx_retN, exx_iff, exx_for, exx_whl, exx_raise, exx_gput, evx_c, evx_v, evx_bin, evx_cmp, evx_chain, evx_and, evx_or, evx_not, evx_tup, evx_lst, evx_ix, evx_sl, evx_bf, evx_call, evx_gix, evx_ite, evsx_nil, evsx_cons, evT, evO, evOT, Env.get, bf_one, bf1, isi_str, isi_tup, isStr, isTupD, asD, truD, cmpD, cmpOp, eqE, nilEq, solid, endD, slOf, dOf, toInt, seqOf, seqE, seqS, seqJ, setTg, setTgs, List.mapM_cons, List.mapM_nil, Option.bind, Option.map, is_tuple S, tupB, hk, hr, optD, isD, setupF, e1, e2, one_s]
          | true => simp [L_setup_fault, ofO_some, M.pu_bd, exsx_nil, exsx_cons, exx_asg, exx_par, exx_ret, exx_retN, exx_iff, exx_for, exx_whl, exx_raise, exx_gput, evx_c, evx_v, evx_bin, evx_cmp, evx_chain, evx_and, evx_or, evx_not, evx_tup, evx_lst, evx_ix, evx_sl, evx_bf, evx_call, evx_gix, evx_ite, evsx_nil, evsx_cons, evT, evO, evOT, Env.get, bf_one, bf1, isi_str, isi_tup, isStr, isTupD, asD, truD, cmpD, cmpOp, eqE, nilEq, solid, endD, slOf, dOf, toInt, seqOf, seqE, seqS, seqJ, setTg, setTgs, List.mapM_cons, List.mapM_nil, Option.bind, Option.map, is_tuple S, tupB, hk, hr, hs, optD, isD, setupF, e1, e2]
    · have h2 : ¬ ((3 : Int) ≤ xs.length ∧ (xs.length : Int) ≤ 3) := by omega
      rw [setupF_not h]
      simp [L_setup_fault, ofO_some, M.pu_bd, exsx_nil, exsx_cons, exx_asg, exx_par, exx_ret, exx_retN, exx_iff, exx_for, exx_whl, exx_raise, exx_gput, evx_c, evx_v, evx_bin, evx_cmp, evx_chain, evx_and, evx_or, evx_not, evx_tup, evx_lst, evx_ix, evx_sl, evx_bf, evx_call, evx_gix, evx_ite, evsx_nil, evsx_cons, evT, evO, evOT, Env.get, bf_one, bf1, isi_str, isi_tup, isStr, isTupD, asD, truD, cmpD, cmpOp, eqE, nilEq, solid, endD, slOf, dOf, toInt, seqOf, seqE, seqS, seqJ, setTg, setTgs, List.mapM_cons, List.mapM_nil, Option.bind, Option.map, is_tuple S, tupB, h2, optD]
  | _ => simp [L_setup_fault, ofO_some, M.pu_bd, exsx_nil, exsx_cons, exx_asg, exx_par, exx_ret, exx_retN, exx_iff, exx_for, exx_whl, exx_raise, exx_gput, evx_c, evx_v, evx_bin, evx_cmp, evx_chain, evx_and, evx_or, evx_not, evx_tup, evx_lst, evx_ix, evx_sl, evx_bf, evx_call, evx_gix, evx_ite, evsx_nil, evsx_cons, evT, evO, evOT, Env.get, bf_one, bf1, isi_str, isi_tup, isStr, isTupD, asD, truD, cmpD, cmpOp, eqE, nilEq, solid, endD, slOf, dOf, toInt, seqOf, seqE, seqS, seqJ, setTg, setTgs, List.mapM_cons, List.mapM_nil, Option.bind, Option.map, is_tuple S, tupB, optD, setupF]
omit S in
theorem setupF_tup {k p : D} (h : setupF k = some p) : ∃ ds, p = .tuple ds := by
  unfold setupF at h
  split at h
  · split at h
    · cases h; exact kindsF_tup (by assumption)
    · split at h
      · exact shellF_tup h
      · cases h; exact ⟨_, rfl⟩
  · cases h; exact ⟨_, rfl⟩
omit S in
theorem dummy_su : True := trivial
end
end PD
end
section
set_option Elab.async false
set_option linter.all false
set_option maxRecDepth 100000
set_option maxHeartbeats 4000000
namespace PD
open PySem PySem.Spec L2

/-! ### drawn setups, for any law -/
def L_some (dr o : Nat) : List Sm := [(.ret (.bf .tuple [(.lc (.n 4) (.rng1 (.bin .Add (.v 2) (.call dr [(.v 0), (.bin .Add (.bin .Sub (.v 3) (.v 2)) (.c (.int (1))))]))) none (.call o [(.v 0), (.v 1)]) [4])]))]
def L_setup (dr o so : Nat) : List Sm := [(.asg (.n 4) (.lst [(.c (.str "group")), (.c (.str "front")), (.c (.str "read")), (.c (.str "write")), (.c (.str "raw")), (.c (.str "plain")), (.c (.str "hold")), (.c (.str "again"))])), (.asg (.n 5) (.bf .tuple [(.lc (.n 7) (.rng1 (.bin .Add (.c (.int (1))) (.call dr [(.v 0), (.v 1)]))) none (.call so [(.v 0), (.v 4), (.c (.int (1))), (.v 2)]) [7])])), (.asg (.n 6) (.tup [(.call o [(.v 0), (.lst [(.c (.str "stop")), (.c (.str "fail")), (.c (.str "wait"))])]), (.call o [(.v 0), (.lst [(.c (.str "go")), (.c (.str "stop"))])]), (.call o [(.v 0), (.lst [(.c (.str "go")), (.c (.str "stop"))])])])), (.asg (.n 4) (.lst [(.c (.str "group")), (.c (.str "give")), (.c (.str "go")), (.c (.str "wait")), (.c (.str "listen")), (.c (.str "take")), (.c (.str "plain")), (.c (.str "give")), (.c (.str "take"))])), (.ret (.tup [(.v 5), (.v 6), (.bf .tuple [(.lc (.n 7) (.rng1 (.c (.int (4)))) none (.call so [(.v 0), (.v 4), (.c (.int (0))), (.v 3)]) [7])])]))]
structure Dw (wd : Str → Option (Option Str)) (P : List Df) (b dr o so se : Nat) : Prop where
  hb : P[b]? = some (.tx 1 3 (L_begun 11))
  hd : P[dr]? = some (.tx 2 4 L_draw)
  ho : P[o]? = some (.tx 2 2 (L_of dr))
  hs : P[so]? = some (.tx 4 5 (L_some dr o))
  hu : P[se]? = some (.tx 4 8 (L_setup dr o so))
section
variable {wd : Str → Option (Option Str)} {P : List Df} {b dr o so se : Nat} (W : Dw wd P b dr o so se)
include W
theorem Dw.drawW (f : Nat) (L : Int) (h0 : 0 < L) (h1 : L ≤ 1000000) {k : Int} (hk : k < 1000000) {g : Gen} (hg : G k g) : ∃ r g', callF wd 100 P (f + 1) dr [.gn, .d (.int L)] g = .ok (.int r) g' ∧ 0 ≤ r ∧ r < L ∧ G (k + 1) g' := PD.draw W.hd f L h0 h1 hk hg
theorem Dw.ofW (f : Nat) {xs : List D} (h0 : xs ≠ []) (h1 : xs.length ≤ 1000) {k : Int} (hk : k < 1000000) {g : Gen} (hg : G k g) : ∃ x g', callF wd 100 P (f + 2) o [.gn, .d (.list xs)] g = .ok x g' ∧ x ∈ xs ∧ G (k + 1) g' := PD.law_of W.hd W.ho f h0 h1 hk hg
theorem Dw.someW (f : Nat) {xs : List D} (h0 : xs ≠ []) (h1 : xs.length ≤ 1000) {lo hi : Int} (hlo : 0 ≤ lo) (hh : lo ≤ hi) (hhi : hi ≤ 10) {k : Int} (hk : k < 900000) {g : Gen} (hg : G k g) : ∃ ys g', callF wd 100 P (f + 3) so [.gn, .d (.list xs), .d (.int lo), .d (.int hi)] g = .ok (.tuple ys) g' ∧ lo ≤ ys.length ∧ ys.length ≤ hi ∧ (∀ y ∈ ys, y ∈ xs) ∧ G (k + 11) g' := by
  obtain ⟨r, g1, e, r0, r1, hg1⟩ := W.drawW (f + 1) (hi - lo + 1) (by omega) (by omega) (by omega) hg
  obtain ⟨ds, ed, ld⟩ := rng_some (n := lo + r) (by omega) (by omega)
  have hdl : (ds.length : Int) = lo + r := by omega
  obtain ⟨ys, g2, e2, l2, p2, hg2⟩ := mapB_st (h := lcF ⟨callF wd 100 P (f + 2), wd⟩ [.gn, .fz (.list xs), .fz (.int lo), .fz (.int hi), .un] (.n 4) none (.call o [.v 0, .v 1]) [4]) (P := fun y => y ∈ xs) (c := 1) (K := 1000000) (by omega) ds (k + 1) g1 hg1 (by omega) fun d _ k' g' hk' hg' => by
    obtain ⟨x, g3, e3, hx, hg3⟩ := W.ofW f h0 h1 hk' hg'
    refine ⟨x, g3, ?_, hx, hg3⟩
    simp [lcF, M.calm, ofO_some, M.pu_bd, exsx_nil, exsx_cons, exx_asg, exx_par, exx_ret, exx_retN, exx_iff, exx_for, exx_whl, exx_raise, exx_gput, evx_c, evx_v, evx_bin, evx_cmp, evx_chain, evx_and, evx_or, evx_not, evx_tup, evx_lst, evx_ix, evx_sl, evx_bf, evx_call, evx_gix, evx_ite, evsx_nil, evsx_cons, evT, evO, evOT, Env.get, bf_one, bf1, isi_str, isi_tup, isStr, isTupD, asD, truD, cmpD, cmpOp, eqE, nilEq, solid, endD, slOf, dOf, toInt, seqOf, seqE, seqS, seqJ, setTg, setTgs, List.mapM_cons, List.mapM_nil, Option.bind, Option.map, wipeE, bd_ap, pu_ap, e3]
  have hys : ys.length ≤ sizeLine := by rw [sizeLine_eq]; omega
  have el := ev_lcS (F := ⟨callF wd 100 P (f + 2), wd⟩) (env := [.gn, .fz (.list xs), .fz (.int lo), .fz (.int hi), .un]) (tg := .n 4) (it := .rng1 (.bin .Add (.v 2) (.call dr [.v 0, .bin .Add (.bin .Sub (.v 3) (.v 2)) (.c (.int 1))]))) (t := none) (e := .call o [.v 0, .v 1]) (w := [4]) (g := g) (by
    show evI _ _ _ _ = .ok ds g1
    simp [evI, ofO_some, M.pu_bd, exsx_nil, exsx_cons, exx_asg, exx_par, exx_ret, exx_retN, exx_iff, exx_for, exx_whl, exx_raise, exx_gput, evx_c, evx_v, evx_bin, evx_cmp, evx_chain, evx_and, evx_or, evx_not, evx_tup, evx_lst, evx_ix, evx_sl, evx_bf, evx_call, evx_gix, evx_ite, evsx_nil, evsx_cons, evT, evO, evOT, Env.get, bf_one, bf1, isi_str, isi_tup, isStr, isTupD, asD, truD, cmpD, cmpOp, eqE, nilEq, solid, endD, slOf, dOf, toInt, seqOf, seqE, seqS, seqJ, setTg, setTgs, List.mapM_cons, List.mapM_nil, Option.bind, Option.map, bd_ap, pu_ap, binD, opD, addD, subD, e, ed]) e2 hys
  refine ⟨ys, g2, ?_, by omega, by omega, p2, ⟨hg2.gl, hg2.t0, by have := hg2.tk; omega⟩⟩
  rw [callF_tx W.hs]
  simp [L_some, ofO_some, M.pu_bd, exsx_nil, exsx_cons, exx_asg, exx_par, exx_ret, exx_retN, exx_iff, exx_for, exx_whl, exx_raise, exx_gput, evx_c, evx_v, evx_bin, evx_cmp, evx_chain, evx_and, evx_or, evx_not, evx_tup, evx_lst, evx_ix, evx_sl, evx_bf, evx_call, evx_gix, evx_ite, evsx_nil, evsx_cons, evT, evO, evOT, Env.get, bf_one, bf1, isi_str, isi_tup, isStr, isTupD, asD, truD, cmpD, cmpOp, eqE, nilEq, solid, endD, slOf, dOf, toInt, seqOf, seqE, seqS, seqJ, setTg, setTgs, List.mapM_cons, List.mapM_nil, Option.bind, Option.map, bd_ap, pu_ap, el, tupleD]
omit W in
theorem bad_all {p : D → Bool} : ∀ {xs : List D} {k : Nat}, (∀ x ∈ xs, p x = true) → bad p k xs = none
  | [], _, _ => rfl
  | y :: ys, k, h => by
    have h1 := h y (by simp)
    have h2 := bad_all (xs := ys) (k := k + 1) fun x hx => h x (by simp [hx])
    simp [bad, h1, h2]
def dActs : List D := [.str "group", .str "front", .str "read", .str "write", .str "raw", .str "plain", .str "hold", .str "again"]
def dSteps : List D := [.str "group", .str "give", .str "go", .str "wait", .str "listen", .str "take", .str "plain", .str "give", .str "take"]
def dReads : List D := [.str "stop", .str "fail", .str "wait"]
def dLets : List D := [.str "go", .str "stop"]
omit W in
theorem w_acts : ∀ x ∈ dActs, wordB x acts = true := by decide
omit W in
theorem w_steps : ∀ x ∈ dSteps, wordB x steps = true := by decide
omit W in
theorem w_reads : ∀ x ∈ dReads, wordB x reads = true := by decide
omit W in
theorem w_lets : ∀ x ∈ dLets, wordB x lets = true := by decide
omit W in
theorem ws_some {lo hi : Int} {ws : List Str} {xs ys : List D} (hw : ∀ x ∈ xs, wordB x ws = true) (a : lo ≤ ys.length) (b : ys.length ≤ hi) (h : ∀ y ∈ ys, y ∈ xs) : wordsB lo hi ws (.tuple ys) = true := by
  simp only [wordsB, Bool.and_eq_true, decide_eq_true_eq, List.all_eq_true]
  exact ⟨⟨a, b⟩, fun y hy => hw y (h y hy)⟩
theorem Dw.lc_some (f : Nat) {ws : List Str} {xs : List D} (h0 : xs ≠ []) (h1 : xs.length ≤ 1000) (hw : ∀ x ∈ xs, wordB x ws = true) {lo hi : Int} (hlo : 0 ≤ lo) (hh : lo ≤ hi) (hhi : hi ≤ 10) {env : PD.Env} {e2 e3 : E} {it : I} {ds : List D} {k : Int} {g g1 : Gen} (hg : G k g1) (hk : k < 800000) (hl : ds.length ≤ 1000)
    (hi' : evI ⟨callF wd 100 P (f + 3), wd⟩ it env g = .ok ds g1)
    (hcall : ∀ d g', ev ⟨callF wd 100 P (f + 3), wd⟩ (.call so [.v 0, .v 4, e2, e3]) ((wipeE env [7]).set 7 (.fz d)) g' = ((callF wd 100 P (f + 3) so [.gn, .d (.list xs), .d (.int lo), .d (.int hi)]).bd fun d => .pu (.d d)) g')
    (hset : ∀ d, setTg (wipeE env [7]) (.n 7) d = some ((wipeE env [7]).set 7 (.fz d))) :
    ∃ ys g2, ev ⟨callF wd 100 P (f + 3), wd⟩ (.lc (.n 7) it none (.call so [.v 0, .v 4, e2, e3]) [7]) env g = .ok (.d (.list ys)) g2 ∧ ys.length = ds.length ∧ (∀ y ∈ ys, wordsB lo hi ws y = true) ∧ G (k + 11 * ds.length) g2 := by
  obtain ⟨ys, g2, e2', l2, p2, hg2⟩ := mapB_st (h := lcF ⟨callF wd 100 P (f + 3), wd⟩ env (.n 7) none (.call so [.v 0, .v 4, e2, e3]) [7]) (P := fun y => wordsB lo hi ws y = true) (c := 11) (K := 900000) (by omega) ds k g1 hg (by omega) fun d _ k' g' hk' hg' => by
    obtain ⟨zs, g3, e3', z1, z2, z3, hg3⟩ := W.someW f h0 h1 hlo hh hhi hk' hg'
    refine ⟨.tuple zs, g3, ?_, ws_some hw z1 z2 z3, hg3⟩
    simp [lcF, M.calm, ofO_some, M.pu_bd, bd_ap, pu_ap, hset, evOT, hcall, e3', solid]
  refine ⟨ys, g2, ev_lcS hi' e2' (by rw [sizeLine_eq]; omega), l2, p2, hg2⟩
theorem Dw.setupW (f : Nat) {k : Int} (hk : k < 700000) {g : Gen} (hg : G k g) : ∃ d g', callF wd 100 P (f + 4) se [.gn, .d (.int 3), .d (.int 5), .d (.int 6)] g = .ok d g' ∧ setupF d = none ∧ G (k + 100) g' := by
  have h3s : (3 : Nat) ≤ sizeLine := by rw [sizeLine_eq]; omega
  have h2s : (2 : Nat) ≤ sizeLine := by rw [sizeLine_eq]; omega
  have h8s : (8 : Nat) ≤ sizeLine := by rw [sizeLine_eq]; omega
  have h9s : (9 : Nat) ≤ sizeLine := by rw [sizeLine_eq]; omega
  obtain ⟨r, g1, e, r0, r1, hg1⟩ := W.drawW (f + 2) 3 (by omega) (by omega) (by omega) hg
  obtain ⟨ds, ed, ld⟩ := rng_some (n := 1 + r) (by omega) (by omega)
  obtain ⟨ks, g2, ek, lk, pk, hg2⟩ := W.lc_some f (ws := acts) (xs := dActs) (by simp [dActs]) (by simp [dActs]) w_acts (lo := 1) (hi := 5) (by omega) (by omega) (by omega)
    (env := [.gn, .fz (.int 3), .fz (.int 5), .fz (.int 6), .fz (.list dActs), .un, .un, .un]) (e2 := .c (.int 1)) (e3 := .v 2) (it := .rng1 (.bin .Add (.c (.int 1)) (.call dr [.v 0, .v 1]))) (ds := ds) (g := g) hg1 (by omega) (by omega)
    (by simp [evI, ofO_some, M.pu_bd, exsx_nil, exsx_cons, exx_asg, exx_par, exx_ret, exx_retN, exx_iff, exx_for, exx_whl, exx_raise, exx_gput, evx_c, evx_v, evx_bin, evx_cmp, evx_chain, evx_and, evx_or, evx_not, evx_tup, evx_lst, evx_ix, evx_sl, evx_bf, evx_call, evx_gix, evx_ite, evsx_nil, evsx_cons, evT, evO, evOT, Env.get, bf_one, bf1, isi_str, isi_tup, isStr, isTupD, asD, truD, cmpD, cmpOp, eqE, nilEq, solid, endD, slOf, dOf, toInt, seqOf, seqE, seqS, seqJ, setTg, setTgs, List.mapM_cons, List.mapM_nil, Option.bind, Option.map, bd_ap, pu_ap, binD, opD, addD, e, ed]) (fun d g' => by simp [wipeE, ofO_some, M.pu_bd, exsx_nil, exsx_cons, exx_asg, exx_par, exx_ret, exx_retN, exx_iff, exx_for, exx_whl, exx_raise, exx_gput, evx_c, evx_v, evx_bin, evx_cmp, evx_chain, evx_and, evx_or, evx_not, evx_tup, evx_lst, evx_ix, evx_sl, evx_bf, evx_call, evx_gix, evx_ite, evsx_nil, evsx_cons, evT, evO, evOT, Env.get, bf_one, bf1, isi_str, isi_tup, isStr, isTupD, asD, truD, cmpD, cmpOp, eqE, nilEq, solid, endD, slOf, dOf, toInt, seqOf, seqE, seqS, seqJ, setTg, setTgs, List.mapM_cons, List.mapM_nil, Option.bind, Option.map, bd_ap, pu_ap]) (fun d => by simp [wipeE, setTg])
  obtain ⟨a, g3, ea, pa, hg3⟩ := W.ofW (f + 1) (xs := dReads) (by simp [dReads]) (by simp [dReads]) (by omega) hg2
  obtain ⟨b, g4, eb, pb, hg4⟩ := W.ofW (f + 1) (xs := dLets) (by simp [dLets]) (by simp [dLets]) (by omega) hg3
  obtain ⟨c, g5, ec, pc, hg5⟩ := W.ofW (f + 1) (xs := dLets) (by simp [dLets]) (by simp [dLets]) (by omega) hg4
  obtain ⟨dt, edt, ldt⟩ := rng_some (n := 4) (by omega) (by omega)
  obtain ⟨ss, g6, es, ls, ps, hg6⟩ := W.lc_some f (ws := steps) (xs := dSteps) (by simp [dSteps]) (by simp [dSteps]) w_steps (lo := 0) (hi := 6) (by omega) (by omega) (by omega)
    (env := [.gn, .fz (.int 3), .fz (.int 5), .fz (.int 6), .fz (.list dSteps), .fz (.tuple ks), .fz (.tuple [a, b, c]), .un]) (e2 := .c (.int 0)) (e3 := .v 3) (it := .rng1 (.c (.int 4))) (ds := dt) (g := g5) hg5 (by omega) (by omega)
    (by simp [evI, ofO_some, M.pu_bd, exsx_nil, exsx_cons, exx_asg, exx_par, exx_ret, exx_retN, exx_iff, exx_for, exx_whl, exx_raise, exx_gput, evx_c, evx_v, evx_bin, evx_cmp, evx_chain, evx_and, evx_or, evx_not, evx_tup, evx_lst, evx_ix, evx_sl, evx_bf, evx_call, evx_gix, evx_ite, evsx_nil, evsx_cons, evT, evO, evOT, Env.get, bf_one, bf1, isi_str, isi_tup, isStr, isTupD, asD, truD, cmpD, cmpOp, eqE, nilEq, solid, endD, slOf, dOf, toInt, seqOf, seqE, seqS, seqJ, setTg, setTgs, List.mapM_cons, List.mapM_nil, Option.bind, Option.map, bd_ap, pu_ap, edt]) (fun d g' => by simp [wipeE, ofO_some, M.pu_bd, exsx_nil, exsx_cons, exx_asg, exx_par, exx_ret, exx_retN, exx_iff, exx_for, exx_whl, exx_raise, exx_gput, evx_c, evx_v, evx_bin, evx_cmp, evx_chain, evx_and, evx_or, evx_not, evx_tup, evx_lst, evx_ix, evx_sl, evx_bf, evx_call, evx_gix, evx_ite, evsx_nil, evsx_cons, evT, evO, evOT, Env.get, bf_one, bf1, isi_str, isi_tup, isStr, isTupD, asD, truD, cmpD, cmpOp, eqE, nilEq, solid, endD, slOf, dOf, toInt, seqOf, seqE, seqS, seqJ, setTg, setTgs, List.mapM_cons, List.mapM_nil, Option.bind, Option.map, bd_ap, pu_ap]) (fun d => by simp [wipeE, setTg])
  refine ⟨.tuple [.tuple ks, .tuple [a, b, c], .tuple ss], g6, ?_, ?_, ⟨hg6.gl, hg6.t0, by have := hg6.tk; omega⟩⟩
  · rw [callF_tx W.hu]
    simp only [dActs, dSteps, dReads, dLets] at ek ea eb ec es
    simp [L_setup, ofO_some, M.pu_bd, exsx_nil, exsx_cons, exx_asg, exx_par, exx_ret, exx_retN, exx_iff, exx_for, exx_whl, exx_raise, exx_gput, evx_c, evx_v, evx_bin, evx_cmp, evx_chain, evx_and, evx_or, evx_not, evx_tup, evx_lst, evx_ix, evx_sl, evx_bf, evx_call, evx_gix, evx_ite, evsx_nil, evsx_cons, evT, evO, evOT, Env.get, bf_one, bf1, isi_str, isi_tup, isStr, isTupD, asD, truD, cmpD, cmpOp, eqE, nilEq, solid, endD, slOf, dOf, toInt, seqOf, seqE, seqS, seqJ, setTg, setTgs, List.mapM_cons, List.mapM_nil, Option.bind, Option.map, bd_ap, pu_ap, h2s, h3s, h8s, h9s, tupleD, ek, ea, eb, ec, es]
  · have hkl : 1 ≤ ks.length ∧ ks.length ≤ 3 := by omega
    have hsl : ss.length = 4 := by omega
    simp [setupF, kindsF, shellF, rulesB, hkl, hsl, bad_all pk, bad_all ps, w_reads a pa, w_lets b pb, w_lets c pc]
end
end PD
end
section
set_option Elab.async false
set_option linter.all false
set_option maxRecDepth 100000
set_option maxHeartbeats 8000000
namespace PD
open PySem PySem.Spec L2

/-! ### how long what is shown is -/
theorem len_app (a b : Str) : (a ++ b).length = a.length + b.length := by
  unfold Str.length
  rw [Str.cps_append, Array.size_append]
theorem so_app (a b : Str) : PyData.strOk (a ++ b) = (PyData.strOk a && PyData.strOk b) := by
  unfold PyData.strOk
  rw [Str.cps_append, Array.all_append]
theorem so_join {s : Str} (hs : PyData.strOk s = true) : ∀ ts : List Str, (∀ t ∈ ts, PyData.strOk t = true) → PyData.strOk (Str.join s ts) = true
  | [], _ => by show PyData.strOk Str.empty = true; decide +kernel
  | [x], h => h x (by simp)
  | x :: y :: r, h => by
    have e : Str.join s (x :: y :: r) = x ++ s ++ Str.join s (y :: r) := rfl
    rw [e, so_app, so_app, h x (by simp), hs, so_join hs (y :: r) (fun t ht => h t (by simp [ht]))]
    rfl
theorem len_join {s : Str} {L : Nat} : ∀ ts : List Str, (∀ t ∈ ts, t.length ≤ L) → (Str.join s ts).length ≤ ts.length * (L + s.length)
  | [], _ => by
    have : Str.empty.length = 0 := by decide +kernel
    show Str.empty.length ≤ _
    rw [this]; exact Nat.zero_le _
  | [x], h => by
    have := h x (by simp)
    show x.length ≤ 1 * (L + s.length)
    omega
  | x :: y :: r, h => by
    have e : Str.join s (x :: y :: r) = x ++ s ++ Str.join s (y :: r) := rfl
    have h1 := h x (by simp)
    have h2 := len_join (s := s) (y :: r) fun t ht => h t (by simp [ht])
    rw [e, len_app, len_app, List.length_cons, Nat.add_mul]
    omega
structure Nr (dep L : Nat) (d : D) : Prop where
  sh : d.showable = true
  so : PyData.strOk d.shown = true
  dp : d.depth ≤ dep
  ln : d.shown.length ≤ L
theorem Nr.mono {dep L dep' L' : Nat} {d : D} (h : Nr dep L d) (a : dep ≤ dep') (b : L ≤ L') : Nr dep' L' d := ⟨h.sh, h.so, Nat.le_trans h.dp a, Nat.le_trans h.ln b⟩
section
variable {dep L : Nat}
theorem nr_all : ∀ {xs : List D}, (∀ x ∈ xs, Nr dep L x) → PyData.showableAll xs = true ∧ (∀ t ∈ PyData.shownAll xs, PyData.strOk t = true ∧ t.length ≤ L) ∧ PyData.depthAll xs ≤ dep ∧ (PyData.shownAll xs).length = xs.length
  | [], _ => by simp [PyData.showableAll, PyData.shownAll, PyData.depthAll]
  | x :: xs, h => by
    obtain ⟨a1, a3, a6, a7⟩ := nr_all (xs := xs) fun y hy => h y (by simp [hy])
    have b := h x (by simp)
    refine ⟨by simp [PyData.showableAll, a1, b.sh], ?_, ?_, by rw [PyData.shownAll_cons]; simp [a7]⟩
    · intro t ht
      rw [PyData.shownAll_cons] at ht
      rcases List.mem_cons.mp ht with rfl | ht
      · exact ⟨b.so, b.ln⟩
      · exact a3 t ht
    · have := b.dp
      simp only [PyData.depthAll]
      omega
theorem nr_tup {xs : List D} (h : ∀ x ∈ xs, Nr dep L x) : Nr (dep + 1) (xs.length * (L + 2) + 3) (.tuple xs) := by
  obtain ⟨a1, a3, a6, a7⟩ := nr_all h
  have lj := len_join (s := ", ") (L := L) (PyData.shownAll xs) fun t ht => (a3 t ht).2
  have l2 : (", " : Str).length = 2 := by decide +kernel
  rw [a7, l2] at lj
  refine ⟨by simp only [PyData.showable]; exact a1, ?_, by simp only [PyData.depth]; omega, ?_⟩
  · rw [PyData.shown_tuple, so_app, so_app, so_join (by decide +kernel) _ fun t ht => (a3 t ht).1]
    split <;> decide +kernel
  · rw [PyData.shown_tuple, len_app, len_app]
    have l1 : ("(" : Str).length = 1 := by decide +kernel
    rw [l1]
    split
    · have : (",)" : Str).length = 2 := by decide +kernel
      rw [this]; omega
    · have : (")" : Str).length = 1 := by decide +kernel
      rw [this]; omega
theorem nr_list {xs : List D} (h : ∀ x ∈ xs, Nr dep L x) : Nr (dep + 1) (xs.length * (L + 2) + 3) (.list xs) := by
  obtain ⟨a1, a3, a6, a7⟩ := nr_all h
  have lj := len_join (s := ", ") (L := L) (PyData.shownAll xs) fun t ht => (a3 t ht).2
  have l2 : (", " : Str).length = 2 := by decide +kernel
  rw [a7, l2] at lj
  refine ⟨by simp only [PyData.showable]; exact a1, ?_, by simp only [PyData.depth]; omega, ?_⟩
  · rw [PyData.shown_list, so_app, so_app, so_join (by decide +kernel) _ fun t ht => (a3 t ht).1]
    decide +kernel
  · rw [PyData.shown_list, len_app, len_app]
    have l1 : ("[" : Str).length = 1 := by decide +kernel
    have l3 : ("]" : Str).length = 1 := by decide +kernel
    rw [l1, l3]; omega
theorem nr_ok {d : D} (h : Nr 64 16000000 d) : reprOk d = true := by
  have hz : d.shown.length ≤ sizeLine := by have := h.ln; rw [sizeLine_eq]; omega
  unfold reprOk
  simp [h.sh, h.dp, hz]
end
/-- what is shown beside itself -/
theorem nr_eq {d : D} (h : Nr 64 16000000 d) : eqD (.str d.shown) (.str d.shown) = some true := by
  have hs : SeqAt.shaped (.str d.shown) = true := by
    unfold SeqAt.shaped
    simp [PyData.canLay0, PyData.depth, h.so]
  unfold eqD
  rw [hs]
  simp [PyData.eqv]
theorem nr_repr {d : D} (h : Nr 64 16000000 d) : reprD d = some (.str d.shown) := by
  unfold reprD
  rw [if_pos (nr_ok h)]
end PD
end
section
set_option Elab.async false
set_option linter.all false
set_option maxRecDepth 100000
set_option maxHeartbeats 4000000
namespace PD
open PySem PySem.Spec L2

section
variable {F : Fns} {n : Nat} {env : PD.Env}
theorem exx_asgF (i : Nat) (e : E) : exS F n (.asgF i e) env = (evFr F e env).bd fun ds => if i < env.length then .pu (.nx (env.set i (.ow ds))) else .stuck := by simp only [exS]
theorem evFr_lst (es : List E) : evFr F (.lst es) env = (evs F es env).bd fun xs => (M.ofO (xs.mapM dOf)).bd fun ds => if ds.length ≤ sizeLine then .pu ds else .stuck := by simp only [evFr]
theorem exx_ap {i : Nat} {ds : List D} (e : E) (h : env[i]? = some (.ow ds)) : exS F n (.ap i e) env = (ev F e env).bd fun x => (solid x).bd fun d => if ds.length < sizeLine then .pu (.nx (env.set i (.ow (ds ++ [d])))) else .stuck := by simp only [exS, h]
theorem exx_ex {i : Nat} {ds : List D} (e : E) (h : env[i]? = some (.ow ds)) : exS F n (.ex i e) env = (ev F e env).bd fun x => (M.ofO (lsOf x)).bd fun es => if ds.length + es.length ≤ sizeLine then .pu (.nx (env.set i (.ow (ds ++ es)))) else .stuck := by simp only [exS, h]
theorem evx_u1 (k : U1) (a : E) : ev F (.u1 k a) env = (ev F a env).bd fun x => .ofO ((u1V k x).map .d) := by simp only [ev]
end
theorem rng_n (k : Nat) (h : k ≤ 1000000) : rngD 0 k = some ((List.range k).map fun (i : Nat) => .int i) := by
  unfold rngD
  have c : -(2 ^ 62) ≤ (0 : Int) ∧ (0 : Int) < 2 ^ 62 ∧ -(2 ^ 62) ≤ (k : Int) ∧ (k : Int) < 2 ^ 62 := by omega
  rw [if_pos c]
  simp
theorem toInt_int (i : Int) : toInt (.d (.int i)) = .pu i := rfl
theorem evI_rng1 {F : Fns} (a : E) (env : PD.Env) : evI F (.rng1 a) env = (ev F a env).bd fun x => (toInt x).bd fun i => .ofO (rngD 0 i) := by simp only [evI]
theorem forB_nx {tg : Tg} {B : PD.Env → M Fl} {d : D} {ds : List D} {env env' e : PD.Env} (h1 : setTg env tg d = some env') (h2 : B env' = .pu (.nx e)) : forB tg B (d :: ds) env = forB tg B ds e := by
  simp only [forB, h1, ofO_some, M.pu_bd, h2]
theorem forB_nil {tg : Tg} {B : PD.Env → M Fl} {env : PD.Env} : forB tg B [] env = .pu (.nx env) := rfl
theorem setTg_3 {a b c s : Sl} {r : PD.Env} {d : D} : setTg (a :: b :: c :: s :: r) (.n 3) d = some (a :: b :: c :: .fz d :: r) := by
  simp [setTg]
theorem sqP {F : Fns} {n : Nat} {s : Sm} {r : List Sm} {env e : PD.Env} (h : exS F n s env = .pu (.nx e)) : exSs F n (s :: r) env = exSs F n r e := by rw [exsx_cons, h, M.pu_bd]
end PD
end
section
set_option Elab.async false
set_option linter.all false
set_option maxRecDepth 1000000
set_option maxHeartbeats 8000000
namespace Kk28
open PySem PySem.Spec L2 PD

/-! ### scripts and shells, as words -/
abbrev Sc := List Str
def sS (s : Sc) : D := .tuple (s.map .str)
def shS (ss : List Sc) : D := .tuple (ss.map sS)
theorem cut_to (xs : List D) (k : Nat) : cutD xs none (some (k : Int)) = xs.take k := by
  unfold cutD HT.sIx
  have h : ¬ ((k : Int) < 0) := by omega
  simp only [h, if_false, Int.toNat_natCast, List.drop_zero, Nat.sub_zero]
  by_cases c : k ≤ xs.length
  · rw [Nat.min_eq_left c]
  · rw [Nat.min_eq_right (by omega), List.take_of_length_le (Nat.le_refl _), List.take_of_length_le (by omega)]
theorem cut_from (xs : List D) (k : Nat) : cutD xs (some (k : Int)) none = xs.drop k := by
  unfold cutD HT.sIx
  have h : ¬ ((k : Int) < 0) := by omega
  simp only [h, if_false, Int.toNat_natCast]
  by_cases c : k ≤ xs.length
  · rw [Nat.min_eq_left c, List.take_of_length_le (by simp)]
  · rw [Nat.min_eq_right (by omega), List.drop_of_length_le (Nat.le_refl _), List.drop_of_length_le (by omega)]
    simp
theorem cut_mid (xs : List D) (a b : Nat) : cutD xs (some (a : Int)) (some (b : Int)) = (xs.drop a).take (b - a) := by
  unfold cutD HT.sIx
  have h : ¬ ((a : Int) < 0) := by omega
  have h2 : ¬ ((b : Int) < 0) := by omega
  simp only [h, h2, if_false, Int.toNat_natCast]
  by_cases c : a ≤ xs.length
  · rw [Nat.min_eq_left c]
    by_cases d : b ≤ xs.length
    · rw [Nat.min_eq_left d]
    · rw [Nat.min_eq_right (by omega), List.take_of_length_le (by simp), List.take_of_length_le (by simp; omega)]
  · have c2 : xs.length ≤ a := by omega
    rw [List.drop_of_length_le c2, Nat.min_eq_right c2, List.drop_of_length_le (Nat.le_refl _)]
    simp
theorem at_nat {xs : List D} {j : Nat} {x : D} (h : xs[j]? = some x) : atI xs (j : Int) = some x := by
  have hj := (List.getElem?_eq_some_iff.mp h).1
  have h0 : (0 : Int) ≤ j := by omega
  have h1 : (j : Int) < xs.length := by omega
  simp [atI, ixN, h0, h1, h]
theorem eqv_sS : ∀ a b : Sc, PyData.eqv (sS a) (sS b) = decide (a = b) := by
  have key : ∀ a b : Sc, PyData.eqvAll (a.map .str) (b.map .str) = decide (a = b) := by
    intro a
    induction a with
    | nil => intro b; cases b <;> simp [PyData.eqvAll]
    | cons x a ih =>
      intro b
      cases b with
      | nil => simp [PyData.eqvAll]
      | cons y b =>
        simp only [List.map_cons, PyData.eqvAll, ih, PyData.eqv]
        by_cases e : x = y
        · subst e; simp
        · simp [e]
  intro a b
  unfold sS
  simp only [PyData.eqv]
  exact key a b
theorem eqv_shS : ∀ a b : List Sc, PyData.eqv (shS a) (shS b) = decide (a = b) := by
  have key : ∀ a b : List Sc, PyData.eqvAll (a.map sS) (b.map sS) = decide (a = b) := by
    intro a
    induction a with
    | nil => intro b; cases b <;> simp [PyData.eqvAll]
    | cons x a ih =>
      intro b
      cases b with
      | nil => simp [PyData.eqvAll]
      | cons y b =>
        simp only [List.map_cons, PyData.eqvAll, ih, eqv_sS]
        by_cases e : x = y
        · subst e; simp
        · simp [e]
  intro a b
  unfold shS
  simp only [PyData.eqv]
  exact key a b
theorem keysN_str : ∀ s : Sc, keysN (s.map .str) = some (s.map .text) ∧ NestedKey.depthAll (s.map .text) = 0
  | [] => ⟨by simp [keysN], by simp [NestedKey.depthAll]⟩
  | x :: s => by
    obtain ⟨h1, h2⟩ := keysN_str s
    exact ⟨by simp [keysN, keyN, h1], by simp [NestedKey.depthAll, NestedKey.depth, h2]⟩
theorem keysN_sS : ∀ ss : List Sc, ∃ ks, keysN (ss.map sS) = some ks ∧ NestedKey.depthAll ks ≤ 1
  | [] => ⟨[], by simp [keysN], by simp [NestedKey.depthAll]⟩
  | s :: ss => by
    obtain ⟨ks, h1, h2⟩ := keysN_sS ss
    obtain ⟨h3, h4⟩ := keysN_str s
    refine ⟨.tup (s.map .text) :: ks, by simp [keysN, keyN, sS, h1, h3], ?_⟩
    simp only [NestedKey.depthAll, NestedKey.depth, h4]
    omega
theorem tkey_shS (ss : List Sc) : (tkey (shS ss)).isSome = true := by
  obtain ⟨ks, h1, h2⟩ := keysN_sS ss
  have h3 : NestedKey.depth (.tup ks) ≤ 8 := by simp only [NestedKey.depth]; omega
  simp [tkey, shS, keyN, h1, h3]
/-! ### words that are good to show -/
theorem steps_sh : ∀ w ∈ steps, SeqAt.shaped (.str w) = true := by decide +kernel
def okS (s : Sc) : Prop := s.length ≤ 6 ∧ ∀ w ∈ s, w ∈ steps
theorem lay_str : ∀ {s : Sc}, (∀ w ∈ s, w ∈ steps) → PyData.canLayAll0 (s.map .str) = true ∧ PyData.depthAll (s.map .str) = 0
  | [], _ => by simp [PyData.canLayAll0, PyData.depthAll]
  | x :: s, h => by
    obtain ⟨h1, h2⟩ := lay_str (s := s) fun w hw => h w (by simp [hw])
    have h3 := steps_sh x (h x (by simp))
    unfold SeqAt.shaped at h3
    rw [Bool.and_eq_true] at h3
    exact ⟨by simp [PyData.canLayAll0, h1, h3.1], by simp [PyData.depthAll, PyData.depth, h2]⟩
theorem sh_sS {s : Sc} (h : ∀ w ∈ s, w ∈ steps) : SeqAt.shaped (sS s) = true := by
  obtain ⟨h1, h2⟩ := lay_str h
  unfold SeqAt.shaped sS
  simp [PyData.canLay0, PyData.depth, h1, h2]
theorem lay_sS : ∀ {ss : List Sc}, (∀ s ∈ ss, ∀ w ∈ s, w ∈ steps) → PyData.canLayAll0 (ss.map sS) = true ∧ PyData.depthAll (ss.map sS) ≤ 1
  | [], _ => by simp [PyData.canLayAll0, PyData.depthAll]
  | x :: s, h => by
    obtain ⟨h1, h2⟩ := lay_sS (ss := s) fun w hw => h w (by simp [hw])
    obtain ⟨h3, h4⟩ := lay_str (h x (by simp))
    refine ⟨by simp [PyData.canLayAll0, sS, PyData.canLay0, h1, h3], ?_⟩
    simp only [List.map_cons, PyData.depthAll, sS, PyData.depth, h4]
    omega
theorem lay_shS {ss : List Sc} (h : ∀ s ∈ ss, ∀ w ∈ s, w ∈ steps) : PyData.canLay0 (shS ss) = true ∧ (shS ss).depth ≤ 2 := by
  obtain ⟨h1, h2⟩ := lay_sS h
  unfold shS
  exact ⟨by simp [PyData.canLay0, h1], by simp only [PyData.depth]; omega⟩
theorem sh_shS {ss : List Sc} (h : ∀ s ∈ ss, ∀ w ∈ s, w ∈ steps) : SeqAt.shaped (shS ss) = true := by
  obtain ⟨h1, h2⟩ := lay_shS h
  unfold SeqAt.shaped
  rw [h1, Bool.true_and, decide_eq_true_eq]
  omega
/-! ### sorting -/
theorem alike_sS (a b : Sc) : PySem.W.alike (sS a) (sS b) = true := by
  have key : ∀ a b : Sc, PySem.W.alikeAll (a.map .str) (b.map .str) = true := by
    intro a
    induction a with
    | nil => intro b; cases b <;> simp [PySem.W.alikeAll]
    | cons x a ih =>
      intro b
      cases b with
      | nil => simp [PySem.W.alikeAll]
      | cons y b => simp [PySem.W.alikeAll, PySem.W.alike, ih]
  unfold sS
  simp only [PySem.W.alike]
  exact key a b
theorem alike_shS (a b : List Sc) : PySem.W.alike (shS a) (shS b) = true := by
  have key : ∀ a b : List Sc, PySem.W.alikeAll (a.map sS) (b.map sS) = true := by
    intro a
    induction a with
    | nil => intro b; cases b <;> simp [PySem.W.alikeAll]
    | cons x a ih =>
      intro b
      cases b with
      | nil => simp [PySem.W.alikeAll]
      | cons y b => simp [PySem.W.alikeAll, alike_sS, ih]
  unfold shS
  simp only [PySem.W.alike]
  exact key a b
theorem depth_sS : ∀ ss : List Sc, PyData.depthAll (ss.map sS) ≤ 1
  | [] => by simp [PyData.depthAll]
  | s :: ss => by
    have h := depth_sS ss
    have h2 : ∀ s : Sc, PyData.depthAll (s.map .str) = 0 := fun s => by
      induction s with
      | nil => simp [PyData.depthAll]
      | cons x s ih => simp [PyData.depthAll, PyData.depth, ih]
    have h3 := h2 s
    simp only [List.map_cons, PyData.depthAll, sS, PyData.depth, h3]
    omega
theorem srt_shS {l : List (List Sc)} (h : ∀ s ∈ l, s ≠ []) : srtOk (l.map shS) = true := by
  unfold srtOk
  simp only [Bool.and_eq_true, Bool.or_eq_true, List.all_eq_true]
  refine ⟨fun x hx y hy => ?_, .inl fun x hx => ?_, fun x hx => ?_⟩
  · obtain ⟨a, _, rfl⟩ := List.mem_map.mp hx
    obtain ⟨b, _, rfl⟩ := List.mem_map.mp hy
    exact alike_shS a b
  · obtain ⟨a, ha, rfl⟩ := List.mem_map.mp hx
    cases a with
    | nil => exact absurd rfl (h _ ha)
    | cons y a => rfl
  · obtain ⟨a, _, rfl⟩ := List.mem_map.mp hx
    have := depth_sS a
    simp only [shS, PyData.depth, decide_eq_true_eq]
    omega
/-- the same shells, each once: sorted alike -/
theorem isort_shS {l m : List (List Sc)} (hl : l.Nodup) (hm : m.Nodup) (h : ∀ x, x ∈ l ↔ x ∈ m) : isortD (l.map shS) = isortD (m.map shS) := by
  refine isort_perm (fun x hx y hy => ?_) ?_ (((List.perm_ext_iff_of_nodup hl hm).mpr h).map _)
  · obtain ⟨a, _, rfl⟩ := List.mem_map.mp hx
    obtain ⟨b, _, rfl⟩ := List.mem_map.mp hy
    exact alike_shS a b
  · rw [List.pairwise_map]
    refine List.Pairwise.imp ?_ hm
    intro a b hab
    rw [eqv_shS, decide_eq_false hab]
/-! ### a set of shells -/
def putL (l : List (List Sc)) (x : List Sc) : List (List Sc) := if x ∈ l then l else l ++ [x]
theorem any_shS (l : List (List Sc)) (x : List Sc) : ((l.map shS).any fun q => PyData.eqv q (shS x)) = decide (x ∈ l) := by
  rw [Bool.eq_iff_iff, List.any_eq_true, decide_eq_true_eq]
  constructor
  · rintro ⟨q, hq, e⟩
    obtain ⟨a, ha, rfl⟩ := List.mem_map.mp hq
    rw [eqv_shS, decide_eq_true_eq] at e
    exact e ▸ ha
  · intro h
    exact ⟨shS x, List.mem_map.mpr ⟨x, h, rfl⟩, by rw [eqv_shS, decide_eq_true rfl]⟩
theorem addS_shS (l : List (List Sc)) (x : List Sc) (h : l.length + 1 < 64) : addS (l.map shS) (shS x) = some ((putL l x).map shS) := by
  have c : (tkey (shS x)).isSome = true ∧ (l.map shS).length + 1 < 64 := ⟨tkey_shS x, by simpa using h⟩
  unfold addS
  rw [if_pos c, any_shS]
  unfold putL
  by_cases m : x ∈ l
  · simp [m]
  · simp [m]
def dT (x : List Sc) : D × D := (shS x, .bool true)
theorem putS_shS (l : List (List Sc)) (x : List Sc) (h : l.length < 100) : putS (l.map dT) (shS x) (.bool true) = some ((putL l x).map dT) := by
  have c : (tkey (shS x)).isSome = true ∧ (l.map dT).length < sizeLine := ⟨tkey_shS x, by rw [sizeLine_eq, List.length_map]; omega⟩
  unfold putS
  rw [if_pos c]
  congr 1
  unfold dPut
  have e : ((l.map dT).any fun q => PyData.eqv q.1 (shS x)) = decide (x ∈ l) := by
    rw [← any_shS, List.any_map, List.any_map]
    rfl
  rw [e]
  unfold putL
  by_cases m : x ∈ l
  · rw [decide_eq_true m, if_pos rfl, if_pos m, List.map_map]
    refine List.map_congr_left fun y hy => ?_
    show (if PyData.eqv (shS y) (shS x) = true then (shS y, PyData.bool true) else dT y) = dT y
    split <;> rfl
  · rw [decide_eq_false m, if_neg (by simp), if_neg m, List.map_append]
    rfl
theorem putL_len (l : List (List Sc)) (x : List Sc) : (putL l x).length ≤ l.length + 1 := by
  unfold putL
  split <;> simp
theorem putL_mem {l : List (List Sc)} {x y : List Sc} : y ∈ putL l x ↔ y ∈ l ∨ y = x := by
  unfold putL
  split
  · rename_i h
    constructor
    · exact .inl
    · rintro (h2 | rfl)
      · exact h2
      · exact h
  · simp
theorem putL_nodup {l : List (List Sc)} {x : List Sc} (h : l.Nodup) : (putL l x).Nodup := by
  unfold putL
  split
  · exact h
  · rename_i hx
    rw [List.nodup_append]
    refine ⟨h, by simp, ?_⟩
    intro a ha b hb e
    rw [List.mem_singleton] at hb
    subst hb
    subst e
    exact hx ha
def putsL (l : List (List Sc)) (xs : List (List Sc)) : List (List Sc) := xs.foldl putL l
theorem puts_len : ∀ (xs l : List (List Sc)), (putsL l xs).length ≤ l.length + xs.length
  | [], l => by simp [putsL]
  | x :: xs, l => by
    have h := puts_len xs (putL l x)
    have h2 := putL_len l x
    show (putsL (putL l x) xs).length ≤ _
    simp only [List.length_cons]
    omega
theorem puts_mem {y : List Sc} : ∀ {xs l : List (List Sc)}, y ∈ putsL l xs ↔ y ∈ l ∨ y ∈ xs
  | [], l => by simp [putsL]
  | x :: xs, l => by
    have h := puts_mem (y := y) (xs := xs) (l := putL l x)
    show y ∈ putsL (putL l x) xs ↔ _
    rw [h, putL_mem, List.mem_cons, or_assoc]
theorem puts_nodup : ∀ {xs l : List (List Sc)}, l.Nodup → (putsL l xs).Nodup
  | [], l, h => h
  | x :: xs, l, h => puts_nodup (xs := xs) (l := putL l x) (putL_nodup h)
theorem puts_app (l a b : List (List Sc)) : putsL l (a ++ b) = putsL (putsL l a) b := by simp [putsL]
end Kk28
end
section
set_option Elab.async false
set_option linter.all false
set_option maxRecDepth 1000000
set_option maxHeartbeats 8000000
namespace Kk28
open PySem PySem.Spec L2 PD

theorem su : Su wd progD := ⟨by kernel_rfl, by kernel_rfl, by kernel_rfl, by kernel_rfl, by kernel_rfl, by kernel_rfl, by kernel_rfl, by kernel_rfl⟩
theorem dw : Dw wd progD 12 13 14 15 16 := ⟨by kernel_rfl, by kernel_rfl, by kernel_rfl, by kernel_rfl, by kernel_rfl⟩
def l_is_setup : List Sm := [(.ret (.cmp .Is (.call 7 [(.v 0)]) (.c .none)))]
theorem e_is_setup : b_is_setup = l_is_setup := by kernel_rfl
def l_changed_scripts : List Sm := [(.asgF 1 (.lc (.n 2) (.rng1 (.bf .len [(.v 0)])) none (.bin .Add (.sl (.v 0) none (some (.v 2))) (.sl (.v 0) (some (.bin .Add (.v 2) (.c (.int (1))))) none)) [2])), (.for_ (.n 2) (.rng2 (.c (.int (1))) (.bf .len [(.v 0)])) [(.par [3, 4] [(.ix (.v 0) (.bin .Sub (.v 2) (.c (.int (1))))), (.ix (.v 0) (.v 2))]), (.iff (.cmp .NotEq (.v 3) (.v 4)) [(.ap 1 (.bin .Add (.bin .Add (.sl (.v 0) none (some (.bin .Sub (.v 2) (.c (.int (1)))))) (.tup [(.v 4), (.v 3)])) (.sl (.v 0) (some (.bin .Add (.v 2) (.c (.int (1))))) none)))] [])]), (.fr [1] (.ret (.v 1)))]
theorem e_changed_scripts : b_changed_scripts = l_changed_scripts := by kernel_rfl
def l_mends : List Sm := [(.asg (.n 1) (.ix (.call 9 [(.v 0)]) (.c (.int (2))))), (.newS 2), (.for_ (.t [3, 4]) (.enum (.v 1)) [(.for_ (.n 5) (.e (.call 10 [(.v 4)])) [(.ad 2 (.bin .Add (.bin .Add (.sl (.v 1) none (some (.v 3))) (.tup [(.v 5)])) (.sl (.v 1) (some (.bin .Add (.v 3) (.c (.int (1))))) none)))])]), (.ret (.bf .tuple [(.u1 .srt (.v 2))]))]
theorem e_mends : b_mends = l_mends := by kernel_rfl
def l__law_mends : List Sm := [(.newD 1), (.for_ (.t [2, 3]) (.enum (.v 0)) [(.for_ (.n 4) (.rng1 (.bf .len [(.v 3)])) [(.dp 1 (.bin .Add (.bin .Add (.sl (.v 0) none (some (.v 2))) (.tup [(.bin .Add (.sl (.v 3) none (some (.v 4))) (.sl (.v 3) (some (.bin .Add (.v 4) (.c (.int (1))))) none))])) (.sl (.v 0) (some (.bin .Add (.v 2) (.c (.int (1))))) none)) (.c (.bool true))), (.asg (.n 5) (.bin .Add (.bin .Add (.sl (.v 3) none (some (.v 4))) (.u1 .rev (.sl (.v 3) (some (.v 4)) (some (.bin .Add (.v 4) (.c (.int (2)))))))) (.sl (.v 3) (some (.bin .Add (.v 4) (.c (.int (2))))) none))), (.iff (.cmp .NotEq (.v 5) (.v 3)) [(.dp 1 (.bin .Add (.bin .Add (.sl (.v 0) none (some (.v 2))) (.tup [(.v 5)])) (.sl (.v 0) (some (.bin .Add (.v 2) (.c (.int (1))))) none)) (.c (.bool true)))] [])])]), (.ret (.bf .tuple [(.u1 .srt (.bf .list [(.v 1)]))]))]
theorem e__law_mends : b__law_mends = l__law_mends := by kernel_rfl
def l__law_refused : List Sm := [(.tryE 1 (.call 11 [(.v 0)]) "BadSetup"), (.ret (.c (.str "none")))]
theorem e__law_refused : b__law_refused = l__law_refused := by kernel_rfl
def l_law : List Sm := [(.for_ (.n 2) (.rng1 (.bin .Add (.c (.int (5))) (.bf .min2 [(.c (.int (20))), (.bf .len [(.v 0)])]))) [(.asg (.n 5) (.call 16 [(.v 1), (.c (.int (3))), (.c (.int (5))), (.c (.int (6)))])), (.iff (.cmp .Eq (.call 13 [(.v 1), (.c (.int (3)))]) (.c (.int (0)))) [(.asg (.n 8) (.call 14 [(.v 1), (.c (.tuple [(.str "group"), (.str "give"), (.str "go"), (.str "wait"), (.str "listen"), (.str "take"), (.str "plain")]))])), (.asg (.n 5) (.bin .Add (.sl (.v 5) none (some (.c (.int (2))))) (.tup [(.bin .Add (.tup [(.ix (.ix (.v 5) (.c (.int (2)))) (.c (.int (0)))), (.bin .Mult (.tup [(.v 8)]) (.call 13 [(.v 1), (.c (.int (7)))]))]) (.sl (.ix (.v 5) (.c (.int (2)))) (some (.c (.int (2)))) none))])))] []), (.par [4, 9] [(.call 17 [(.ix (.v 5) (.c (.int (2))))]), (.bf .repr [(.v 5)])]), (.iff (.or (.cmp .NotEq (.bf .repr [(.call 11 [(.v 5)])]) (.bf .repr [(.v 4)])) (.or (.cmp .NotEq (.bf .repr [(.call 11 [(.v 5)])]) (.bf .repr [(.v 4)])) (.cmp .NotEq (.bf .repr [(.v 5)]) (.v 9)))) [(.ret (.c (.bool false)))] []), (.asg (.n 6) (.lc (.n 10) (.e (.v 4)) (some (.cmp .IsNot (.call 8 [(.bin .Add (.sl (.v 5) none (some (.c (.int (2))))) (.tup [(.v 10)]))]) (.c (.bool true)))) (.v 10) [10])), (.iff (.or (.cmp .In (.ix (.v 5) (.c (.int (2)))) (.v 4)) (.cmp .NotEq (.v 6) (.lst []))) [(.ret (.c (.bool false)))] []), (.asg (.n 7) (.lst [(.call 18 [(.sl (.v 5) none (some (.c (.int (2)))))]), (.call 18 [(.tup [(.ix (.v 5) (.c (.int (0)))), (.c (.str "rules")), (.ix (.v 5) (.c (.int (2))))])]), (.call 18 [(.bf .list [(.v 5)])])])), (.iff (.cmp .NotEq (.v 7) (.lst [(.tup []), (.tup [(.c (.str "rules"))]), (.tup [])])) [(.ret (.c (.bool false)))] [])]), (.asg (.n 3) (.tup [(.tup [(.tup [(.c (.str "hold"))])]), (.tup [(.c (.str "fail")), (.c (.str "go")), (.c (.str "go"))]), (.tup [(.tup [(.c (.str "give")), (.c (.str "take")), (.c (.str "give"))]), (.tup []), (.tup [(.c (.str "go")), (.c (.str "go"))]), (.tup [])])])), (.asg (.n 4) (.lst [(.tup [(.tup [(.c (.str "give")), (.c (.str "give"))]), (.tup []), (.tup [(.c (.str "go")), (.c (.str "go"))]), (.tup [])]), (.tup [(.tup [(.c (.str "give")), (.c (.str "give")), (.c (.str "take"))]), (.tup []), (.tup [(.c (.str "go")), (.c (.str "go"))]), (.tup [])])])), (.asg (.n 4) (.bin .Add (.v 4) (.lst [(.tup [(.tup [(.c (.str "give")), (.c (.str "take"))]), (.tup []), (.tup [(.c (.str "go")), (.c (.str "go"))]), (.tup [])]), (.tup [(.tup [(.c (.str "give")), (.c (.str "take")), (.c (.str "give"))]), (.tup []), (.tup [(.c (.str "go"))]), (.tup [])])]))), (.asg (.n 4) (.bin .Add (.v 4) (.lst [(.tup [(.tup [(.c (.str "take")), (.c (.str "give"))]), (.tup []), (.tup [(.c (.str "go")), (.c (.str "go"))]), (.tup [])]), (.tup [(.tup [(.c (.str "take")), (.c (.str "give")), (.c (.str "give"))]), (.tup []), (.tup [(.c (.str "go")), (.c (.str "go"))]), (.tup [])])]))), (.ret (.cmp .Eq (.call 11 [(.v 3)]) (.bf .tuple [(.v 4)])))]
theorem e_law : b_law = l_law := by kernel_rfl
theorem q8 : progD[8]? = some (.tx 1 1 l_is_setup) := by kernel_rfl
theorem q9 : progD[9]? = some (.tx 1 2 L_need_setup) := by kernel_rfl
theorem q10 : progD[10]? = some (.tx 1 5 l_changed_scripts) := by kernel_rfl
theorem q11 : progD[11]? = some (.tx 1 6 l_mends) := by kernel_rfl
theorem q17 : progD[17]? = some (.tx 1 6 l__law_mends) := by kernel_rfl
theorem q18 : progD[18]? = some (.tx 1 2 l__law_refused) := by kernel_rfl
end Kk28
end
section
set_option Elab.async false
set_option linter.all false
set_option maxRecDepth 1000000
set_option maxHeartbeats 8000000
namespace Kk28
open PySem PySem.Spec L2 PD

theorem is_setup (f : Nat) (d : D) : callF wd 100 progD (f + 5) 8 [.d d] = .pu (.bool (setupF d).isNone) := by
  have h := setup_fault su f d
  rw [callF_tx q8]
  cases e : setupF d with
  | none =>
    rw [e] at h
    simp [l_is_setup, ofO_some, M.pu_bd, exsx_nil, exsx_cons, exx_asg, exx_par, exx_ret, exx_retN, exx_iff, exx_for, exx_whl, exx_raise, exx_gput, evx_c, evx_v, evx_bin, evx_cmp, evx_chain, evx_and, evx_or, evx_not, evx_tup, evx_lst, evx_ix, evx_sl, evx_bf, evx_call, evx_gix, evx_ite, evsx_nil, evsx_cons, evT, evO, evOT, Env.get, bf_one, bf1, isi_str, isi_tup, isStr, isTupD, asD, truD, cmpD, cmpOp, eqE, nilEq, solid, endD, slOf, dOf, toInt, seqOf, seqE, seqS, seqJ, setTg, setTgs, List.mapM_cons, List.mapM_nil, Option.bind, Option.map, h, optD, isD]
  | some p =>
    rw [e] at h
    obtain ⟨ds, rfl⟩ := setupF_tup e
    simp [l_is_setup, ofO_some, M.pu_bd, exsx_nil, exsx_cons, exx_asg, exx_par, exx_ret, exx_retN, exx_iff, exx_for, exx_whl, exx_raise, exx_gput, evx_c, evx_v, evx_bin, evx_cmp, evx_chain, evx_and, evx_or, evx_not, evx_tup, evx_lst, evx_ix, evx_sl, evx_bf, evx_call, evx_gix, evx_ite, evsx_nil, evsx_cons, evT, evO, evOT, Env.get, bf_one, bf1, isi_str, isi_tup, isStr, isTupD, asD, truD, cmpD, cmpOp, eqE, nilEq, solid, endD, slOf, dOf, toInt, seqOf, seqE, seqS, seqJ, setTg, setTgs, List.mapM_cons, List.mapM_nil, Option.bind, Option.map, h, optD, isD]
theorem need_ok (f : Nat) (d : D) (e : setupF d = none) : callF wd 100 progD (f + 5) 9 [.d d] = .pu d := by
  have h := setup_fault su f d
  rw [callF_tx q9]
  rw [e] at h; simp [L_need_setup, ofO_some, M.pu_bd, exsx_nil, exsx_cons, exx_asg, exx_par, exx_ret, exx_retN, exx_iff, exx_for, exx_whl, exx_raise, exx_gput, evx_c, evx_v, evx_bin, evx_cmp, evx_chain, evx_and, evx_or, evx_not, evx_tup, evx_lst, evx_ix, evx_sl, evx_bf, evx_call, evx_gix, evx_ite, evsx_nil, evsx_cons, evT, evO, evOT, Env.get, bf_one, bf1, isi_str, isi_tup, isStr, isTupD, asD, truD, cmpD, cmpOp, eqE, nilEq, solid, endD, slOf, dOf, toInt, seqOf, seqE, seqS, seqJ, setTg, setTgs, List.mapM_cons, List.mapM_nil, Option.bind, Option.map, h, optD, isD]
theorem need_er (f : Nat) (d p : D) (e : setupF d = some p) : callF wd 100 progD (f + 5) 9 [.d d] = M.raise "BadSetup" p := by
  have h := setup_fault su f d
  rw [callF_tx q9]
  obtain ⟨ds, rfl⟩ := setupF_tup e
  rw [e] at h; simp [L_need_setup, ofO_some, M.pu_bd, exsx_nil, exsx_cons, exx_asg, exx_par, exx_ret, exx_retN, exx_iff, exx_for, exx_whl, exx_raise, exx_gput, evx_c, evx_v, evx_bin, evx_cmp, evx_chain, evx_and, evx_or, evx_not, evx_tup, evx_lst, evx_ix, evx_sl, evx_bf, evx_call, evx_gix, evx_ite, evsx_nil, evsx_cons, evT, evO, evOT, Env.get, bf_one, bf1, isi_str, isi_tup, isStr, isTupD, asD, truD, cmpD, cmpOp, eqE, nilEq, solid, endD, slOf, dOf, toInt, seqOf, seqE, seqS, seqJ, setTg, setTgs, List.mapM_cons, List.mapM_nil, Option.bind, Option.map, h, optD, isD, raise_bd]
theorem call1 {P : List Df} {f i len : Nat} {body : List Sm} {d : D} (p : P[i]? = some (.tx 1 len body)) : callF wd 100 P (f + 1) i [.d d] = (exSs ⟨callF wd 100 P f, wd⟩ 100 body (.fz d :: List.replicate (len - 1) .un)).bd endD := by
  rw [callF_tx p]
  rfl
/-! ### the changes of a script -/
def del (s : Sc) (k : Nat) : Sc := s.take k ++ s.drop (k + 1)
def swp (s : Sc) (k : Nat) : Sc := s.take k ++ ((s.drop k).take 2).reverse ++ s.drop (k + 2)
def dif (s : Sc) (k : Nat) : Bool := decide (swp s k ≠ s)
def chg (s : Sc) : List Sc := (List.range s.length).map (del s) ++ ((List.range (s.length - 1)).filter (dif s)).map (swp s)
theorem split2 {s : Sc} {j : Nat} (h : j + 1 < s.length) : ∃ p a b r, s = p ++ a :: b :: r ∧ p.length = j := by
  refine ⟨s.take j, s[j], s[j + 1], s.drop (j + 2), ?_, by simp; omega⟩
  rw [← List.drop_eq_getElem_cons (by omega : j + 1 < s.length), ← List.drop_eq_getElem_cons (by omega : j < s.length), List.take_append_drop]
theorem swp_split (p : Sc) (a b : Str) (r : Sc) : swp (p ++ a :: b :: r) p.length = p ++ b :: a :: r := by
  unfold swp
  rw [List.take_left, List.drop_left, show p.length + 2 = (p ++ [a, b]).length by simp, show p ++ a :: b :: r = (p ++ [a, b]) ++ r by simp, List.drop_left]
  simp
theorem dif_split (p : Sc) (a b : Str) (r : Sc) : dif (p ++ a :: b :: r) p.length = decide (a ≠ b) := by
  unfold dif
  rw [swp_split]
  by_cases e : a = b
  · subst e; simp
  · have : p ++ b :: a :: r ≠ p ++ a :: b :: r := fun z => by
      have z2 := List.append_cancel_left z
      injection z2 with z3 _
      exact e z3.symm
    simp [e, this]
theorem slD_tup (xs : List D) (lo hi : Option Int) : slD (.d (.tuple xs)) lo hi = some (.tuple (cutD xs lo hi)) := rfl
theorem addD_tup {a b : List D} (h : a.length + b.length ≤ sizeLine) : addD (.tuple a) (.tuple b) = some (.tuple (a ++ b)) := by
  show (if a.length + b.length ≤ sizeLine then some (PyData.tuple (a ++ b)) else none) = _
  rw [if_pos h]
theorem evJ_rng2 {F : Fns} (a b : E) (env : PD.Env) : evJ F (.rng2 a b) env = (ev F a env).bd fun x => (ev F b env).bd fun y => (toInt x).bd fun i => (toInt y).bd fun j => .ofO (rngD i j) := by simp only [evJ, evI]
theorem addD_int (a b : Int) : addD (.int a) (.int b) = some (.int (a + b)) := rfl
theorem evFr_lcP {F : Fns} {env : PD.Env} {tg : Tg} {it : I} {t : Option E} {e : E} {w : List Nat} {ds ys : List D} (hi : evI F it env = M.pu ds) (hm : mapB (lcF F env tg t e w) ds = M.pu ys) (hl : ys.length ≤ sizeLine) : evFr F (.lc tg it t e w) env = M.pu ys := by
  have h : evFr F (.lc tg it t e w) env = (evI F it env).bd fun ds => (mapB (lcF F env tg t e w) ds).bd fun ys => if ys.length ≤ sizeLine then .pu ys else .stuck := by
    simp only [evFr]; rfl
  rw [h, hi, M.pu_bd, hm, M.pu_bd, if_pos hl]
theorem rng1_n (a k : Nat) (h : a + k ≤ 1000000) : rngD (a : Int) ((a + k : Nat) : Int) = some ((List.range k).map fun (i : Nat) => .int ((a + i : Nat) : Int)) := by
  unfold rngD
  have c : -(2 ^ 62) ≤ (a : Int) ∧ (a : Int) < 2 ^ 62 ∧ -(2 ^ 62) ≤ ((a + k : Nat) : Int) ∧ ((a + k : Nat) : Int) < 2 ^ 62 := by omega
  rw [if_pos c]
  have e : (((a + k : Nat) : Int) - (a : Int)).toNat = k := by omega
  rw [e]
  congr 1
def DELX : E := (.bin .Add (.sl (.v 0) none (some (.v 2))) (.sl (.v 0) (some (.bin .Add (.v 2) (.c (.int (1))))) none))
def SWB : List Sm := [(.par [3, 4] [(.ix (.v 0) (.bin .Sub (.v 2) (.c (.int (1))))), (.ix (.v 0) (.v 2))]), (.iff (.cmp .NotEq (.v 3) (.v 4)) [(.ap 1 (.bin .Add (.bin .Add (.sl (.v 0) none (some (.bin .Sub (.v 2) (.c (.int (1)))))) (.tup [(.v 4), (.v 3)])) (.sl (.v 0) (some (.bin .Add (.v 2) (.c (.int (1))))) none)))] [])]
theorem chg_eq : l_changed_scripts = [(.asgF 1 (.lc (.n 2) (.rng1 (.bf .len [(.v 0)])) none DELX [2])), (.for_ (.n 2) (.rng2 (.c (.int (1))) (.bf .len [(.v 0)])) SWB), (.fr [1] (.ret (.v 1)))] := rfl
section
variable {F : Fns}
theorem delx0 {X A B : List D} {i : Int} (c1 : cutD X none (some i) = A) (c2 : cutD X (some (i + 1)) none = B) (hl : A.length + B.length ≤ 100) (s1 s3 s4 : Sl) : ev F DELX [.fz (.tuple X), s1, .fz (.int i), s3, s4] = .pu (.d (.tuple (A ++ B))) := by
  have a := addD_tup (a := A) (b := B) (by rw [sizeLine_eq]; omega)
  simp [DELX, ofO_some, M.pu_bd, exsx_nil, exsx_cons, exx_asg, exx_par, exx_ret, exx_retN, exx_iff, exx_for, exx_whl, exx_raise, exx_gput, evx_c, evx_v, evx_bin, evx_cmp, evx_chain, evx_and, evx_or, evx_not, evx_tup, evx_lst, evx_ix, evx_sl, evx_bf, evx_call, evx_gix, evx_ite, evsx_nil, evsx_cons, evT, evO, evOT, Env.get, bf_one, bf1, isi_str, isi_tup, isStr, isTupD, asD, truD, cmpD, cmpOp, eqE, nilEq, solid, endD, slOf, dOf, toInt, seqOf, seqE, seqS, seqJ, setTg, setTgs, List.mapM_cons, List.mapM_nil, Option.bind, Option.map, slD_tup, binD, opD, addD_int, c1, c2, a]
theorem delx {s : Sc} (hs : s.length ≤ 6) (k : Nat) (s1 s3 s4 : Sl) : ev F DELX [.fz (sS s), s1, .fz (.int k), s3, s4] = .pu (.d (sS (del s k))) := by
  have h := delx0 (F := F) (X := s.map PyData.str) (cut_to _ k) (cut_from _ (k + 1)) (by simp; omega) s1 s3 s4
  unfold sS del
  rw [List.map_append, List.map_take, List.map_drop]
  exact h
theorem swx0 {X A B acc : List D} {i : Int} {a b : D} (fa : atI X (i - 1) = some a) (fb : atI X i = some b) (c1 : cutD X none (some (i - 1)) = A) (c2 : cutD X (some (i + 1)) none = B) (hl : A.length + B.length ≤ 100) (ha : acc.length < 90) {q : Bool} (hq : eqD a b = some q) (s3 s4 : Sl) :
    exSs F 100 SWB [.fz (.tuple X), .ow acc, .fz (.int i), s3, s4] = .pu (.nx [.fz (.tuple X), .ow (if q = true then acc else acc ++ [.tuple (A ++ [b, a] ++ B)]), .fz (.int i), .fz a, .fz b]) := by
  have t1 : exS F 100 (.par [3, 4] [(.ix (.v 0) (.bin .Sub (.v 2) (.c (.int (1))))), (.ix (.v 0) (.v 2))]) [.fz (.tuple X), .ow acc, .fz (.int i), s3, s4] = .pu (.nx [.fz (.tuple X), .ow acc, .fz (.int i), .fz a, .fz b]) := by
    simp [ofO_some, M.pu_bd, exsx_nil, exsx_cons, exx_asg, exx_par, exx_ret, exx_retN, exx_iff, exx_for, exx_whl, exx_raise, exx_gput, evx_c, evx_v, evx_bin, evx_cmp, evx_chain, evx_and, evx_or, evx_not, evx_tup, evx_lst, evx_ix, evx_sl, evx_bf, evx_call, evx_gix, evx_ite, evsx_nil, evsx_cons, evT, evO, evOT, Env.get, bf_one, bf1, isi_str, isi_tup, isStr, isTupD, asD, truD, cmpD, cmpOp, eqE, nilEq, solid, endD, slOf, dOf, toInt, seqOf, seqE, seqS, seqJ, setTg, setTgs, List.mapM_cons, List.mapM_nil, Option.bind, Option.map, ixD, itD, binD, opD, subD, fa, fb]
  have a1 := addD_tup (a := A) (b := [b, a]) (by rw [sizeLine_eq]; simp; omega)
  have a2 := addD_tup (a := A ++ [b, a]) (b := B) (by rw [sizeLine_eq]; simp; omega)
  have z2 : (2 : Nat) ≤ sizeLine := by rw [sizeLine_eq]; omega
  have hal : acc.length < sizeLine := by rw [sizeLine_eq]; omega
  have tt : evT F (.cmp .NotEq (.v 3) (.v 4)) [.fz (.tuple X), .ow acc, .fz (.int i), .fz a, .fz b] = .pu !q := by
    simp [ofO_some, M.pu_bd, exsx_nil, exsx_cons, exx_asg, exx_par, exx_ret, exx_retN, exx_iff, exx_for, exx_whl, exx_raise, exx_gput, evx_c, evx_v, evx_bin, evx_cmp, evx_chain, evx_and, evx_or, evx_not, evx_tup, evx_lst, evx_ix, evx_sl, evx_bf, evx_call, evx_gix, evx_ite, evsx_nil, evsx_cons, evT, evO, evOT, Env.get, bf_one, bf1, isi_str, isi_tup, isStr, isTupD, asD, truD, cmpD, cmpOp, eqE, nilEq, solid, endD, slOf, dOf, toInt, seqOf, seqE, seqS, seqJ, setTg, setTgs, List.mapM_cons, List.mapM_nil, Option.bind, Option.map, hq]
  rw [SWB, sqP t1, exsx_cons, exx_iff, tt, M.pu_bd]
  cases q with
  | true => rfl
  | false =>
    rw [if_pos (show (!false) = true from rfl), exsx_cons, exx_ap (ds := acc) _ rfl]
    have ex : ev F (.bin .Add (.bin .Add (.sl (.v 0) none (some (.bin .Sub (.v 2) (.c (.int (1)))))) (.tup [(.v 4), (.v 3)])) (.sl (.v 0) (some (.bin .Add (.v 2) (.c (.int (1))))) none)) [.fz (.tuple X), .ow acc, .fz (.int i), .fz a, .fz b] = .pu (.d (.tuple (A ++ [b, a] ++ B))) := by
      rw [List.append_assoc] at a2
      simp [ofO_some, M.pu_bd, exsx_nil, exsx_cons, exx_asg, exx_par, exx_ret, exx_retN, exx_iff, exx_for, exx_whl, exx_raise, exx_gput, evx_c, evx_v, evx_bin, evx_cmp, evx_chain, evx_and, evx_or, evx_not, evx_tup, evx_lst, evx_ix, evx_sl, evx_bf, evx_call, evx_gix, evx_ite, evsx_nil, evsx_cons, evT, evO, evOT, Env.get, bf_one, bf1, isi_str, isi_tup, isStr, isTupD, asD, truD, cmpD, cmpOp, eqE, nilEq, solid, endD, slOf, dOf, toInt, seqOf, seqE, seqS, seqJ, setTg, setTgs, List.mapM_cons, List.mapM_nil, Option.bind, Option.map, slD_tup, binD, opD, addD_int, subD, c1, c2, z2, a1, a2]
    rw [ex]
    simp [M.pu_bd, solid, hal, exsx_nil]
theorem swb {s : Sc} (ok : okS s) {j : Nat} (hj : j + 1 < s.length) {acc : List D} (ha : acc.length < 90) (s3 s4 : Sl) : ∃ s3' s4', exSs F 100 SWB [.fz (sS s), .ow acc, .fz (.int ((1 + j : Nat) : Int)), s3, s4] = .pu (.nx [.fz (sS s), .ow (if dif s j = true then acc ++ [sS (swp s j)] else acc), .fz (.int ((1 + j : Nat) : Int)), s3', s4']) := by
  obtain ⟨p, a, b, r, rfl, rfl⟩ := split2 hj
  have wa := steps_sh a (ok.2 a (by simp))
  have wb := steps_sh b (ok.2 b (by simp))
  have hl := ok.1
  refine ⟨.fz (.str a), .fz (.str b), ?_⟩
  have e1 : ((1 + p.length : Nat) : Int) - 1 = (p.length : Int) := by omega
  have e2 : ((1 + p.length : Nat) : Int) + 1 = ((p.length + 2 : Nat) : Int) := by omega
  have i1 : atI ((p ++ a :: b :: r).map PyData.str) (((1 + p.length : Nat) : Int) - 1) = some (.str a) := by
    rw [e1]
    exact at_nat (by
      rw [List.getElem?_map, List.getElem?_append_right (Nat.le_refl _), Nat.sub_self]
      rfl)
  have i2 : atI ((p ++ a :: b :: r).map PyData.str) ((1 + p.length : Nat) : Int) = some (.str b) := at_nat (by
    rw [List.getElem?_map, List.getElem?_append_right (by omega), show 1 + p.length - p.length = 1 by omega]
    rfl)
  have q : eqD (.str a) (.str b) = some (decide (a = b)) := by
    simp only [eqD, wa, wb, PyData.eqv, Bool.and_self, if_true]
    congr 1
    try (rw [Bool.eq_iff_iff]; simp)
  have c1 : cutD ((p ++ a :: b :: r).map PyData.str) none (some (((1 + p.length : Nat) : Int) - 1)) = p.map .str := by
    rw [e1, cut_to, ← List.map_take, List.take_left]
  have c2 : cutD ((p ++ a :: b :: r).map PyData.str) (some (((1 + p.length : Nat) : Int) + 1)) none = r.map .str := by
    rw [e2, cut_from, ← List.map_drop, show p.length + 2 = (p ++ [a, b]).length by simp, show p ++ a :: b :: r = (p ++ [a, b]) ++ r by simp, List.drop_left]
  have hl2 : p.length + (r.length + 2) ≤ 6 := by simpa using hl
  have h := swx0 (F := F) i1 i2 c1 c2 (by simp; omega) ha q s3 s4
  rw [dif_split, swp_split]
  unfold sS
  rw [h]
  by_cases e : a = b
  · simp [e]
  · simp [e]
theorem swb_all {s : Sc} (ok : okS s) : ∀ (js : List Nat) (acc : List D) (s2 s3 s4 : Sl), (∀ j ∈ js, j + 1 < s.length) → acc.length + js.length < 90 → ∃ s2' s3' s4', forB (.n 2) (exSs F 100 SWB) (js.map fun (j : Nat) => .int ((1 + j : Nat) : Int)) [.fz (sS s), .ow acc, s2, s3, s4] = .pu (.nx [.fz (sS s), .ow (acc ++ ((js.filter (dif s)).map (swp s)).map sS), s2', s3', s4'])
  | [], acc, s2, s3, s4, _, _ => ⟨s2, s3, s4, by simp [forB]⟩
  | j :: js, acc, s2, s3, s4, h, hl => by
    simp only [List.length_cons] at hl
    obtain ⟨s3', s4', e⟩ := swb (F := F) ok (h j (by simp)) (acc := acc) (by omega) s3 s4
    obtain ⟨a, b, c, e2⟩ := swb_all ok js (if dif s j = true then acc ++ [sS (swp s j)] else acc) (.fz (.int ((1 + j : Nat) : Int))) s3' s4' (fun i hi => h i (by simp [hi])) (by split <;> (try simp) <;> omega)
    refine ⟨a, b, c, ?_⟩
    rw [List.map_cons, forB_nx (env' := [.fz (sS s), .ow acc, .fz (.int ((1 + j : Nat) : Int)), s3, s4]) rfl e, e2]
    cases d : dif s j <;> simp [d]
end
theorem chg_len {s : Sc} (h : s.length ≤ 6) : (chg s).length ≤ 11 := by
  unfold chg
  have := List.length_filter_le (dif s) (List.range (s.length - 1))
  simp at this ⊢
  omega
theorem changed (f : Nat) {s : Sc} (ok : okS s) : callF wd 100 progD (f + 1) 10 [.d (sS s)] = .pu (.list ((chg s).map sS)) := by
  have hl := ok.1
  rw [call1 q10, chg_eq]
  have ei : evI ⟨callF wd 100 progD f, wd⟩ (.rng1 (.bf .len [(.v 0)])) [.fz (sS s), .un, .un, .un, .un] = .pu ((List.range s.length).map fun (i : Nat) => .int i) := by
    rw [evI_rng1]
    have : ev ⟨callF wd 100 progD f, wd⟩ (.bf .len [(.v 0)]) [.fz (sS s), .un, .un, .un, .un] = .pu (.d (.int (s.length : Nat))) := by
      simp [ofO_some, M.pu_bd, exsx_nil, exsx_cons, exx_asg, exx_par, exx_ret, exx_retN, exx_iff, exx_for, exx_whl, exx_raise, exx_gput, evx_c, evx_v, evx_bin, evx_cmp, evx_chain, evx_and, evx_or, evx_not, evx_tup, evx_lst, evx_ix, evx_sl, evx_bf, evx_call, evx_gix, evx_ite, evsx_nil, evsx_cons, evT, evO, evOT, Env.get, bf_one, bf1, isi_str, isi_tup, isStr, isTupD, asD, truD, cmpD, cmpOp, eqE, nilEq, solid, endD, slOf, dOf, toInt, seqOf, seqE, seqS, seqJ, setTg, setTgs, List.mapM_cons, List.mapM_nil, Option.bind, Option.map, sS, lenD]
    rw [this, M.pu_bd, toInt_int, M.pu_bd, rng_n _ (by omega)]
    rfl
  have hm : mapB (lcF ⟨callF wd 100 progD f, wd⟩ [.fz (sS s), .un, .un, .un, .un] (.n 2) none DELX [2]) ((List.range s.length).map fun (i : Nat) => .int i) = .pu (((List.range s.length).map (del s)).map sS) := by
    have h := mapB_pu (f := lcF ⟨callF wd 100 progD f, wd⟩ [.fz (sS s), .un, .un, .un, .un] (.n 2) none DELX [2]) (h := fun d => match d with | .int i => some (sS (del s i.toNat)) | _ => none) (ds := (List.range s.length).map fun (i : Nat) => .int i) fun d hd => by
      obtain ⟨k, _, rfl⟩ := List.mem_map.mp hd
      have e := delx (F := ⟨callF wd 100 progD f, wd⟩) hl k .un .un .un
      simp [lcF, wipeE, ofO_some, M.pu_bd, exsx_nil, exsx_cons, exx_asg, exx_par, exx_ret, exx_retN, exx_iff, exx_for, exx_whl, exx_raise, exx_gput, evx_c, evx_v, evx_bin, evx_cmp, evx_chain, evx_and, evx_or, evx_not, evx_tup, evx_lst, evx_ix, evx_sl, evx_bf, evx_call, evx_gix, evx_ite, evsx_nil, evsx_cons, evT, evO, evOT, Env.get, bf_one, bf1, isi_str, isi_tup, isStr, isTupD, asD, truD, cmpD, cmpOp, eqE, nilEq, solid, endD, slOf, dOf, toInt, seqOf, seqE, seqS, seqJ, setTg, setTgs, List.mapM_cons, List.mapM_nil, Option.bind, Option.map, e, calm_pu]
    rw [h, List.filterMap_map]
    congr 1
    rw [List.map_map, ← List.filterMap_eq_map]
    rfl
  have t1 : exS ⟨callF wd 100 progD f, wd⟩ 100 (.asgF 1 (.lc (.n 2) (.rng1 (.bf .len [(.v 0)])) none DELX [2])) [.fz (sS s), .un, .un, .un, .un] = .pu (.nx [.fz (sS s), .ow (((List.range s.length).map (del s)).map sS), .un, .un, .un]) := by
    rw [exx_asgF, evFr_lcP ei hm (by rw [sizeLine_eq]; simp; omega)]
    rfl
  obtain ⟨a, b, c, e2⟩ := swb_all (F := ⟨callF wd 100 progD f, wd⟩) ok (List.range (s.length - 1)) (((List.range s.length).map (del s)).map sS) .un .un .un (fun j hj => by have := List.mem_range.mp hj; omega) (by simp; omega)
  have t2 : exS ⟨callF wd 100 progD f, wd⟩ 100 (.for_ (.n 2) (.rng2 (.c (.int (1))) (.bf .len [(.v 0)])) SWB) [.fz (sS s), .ow (((List.range s.length).map (del s)).map sS), .un, .un, .un] = .pu (.nx [.fz (sS s), .ow ((chg s).map sS), a, b, c]) := by
    rw [exx_for]
    have ej : evJ ⟨callF wd 100 progD f, wd⟩ (.rng2 (.c (.int (1))) (.bf .len [(.v 0)])) [.fz (sS s), .ow (((List.range s.length).map (del s)).map sS), .un, .un, .un] = .pu ((List.range (s.length - 1)).map fun (j : Nat) => .int ((1 + j : Nat) : Int)) := by
      have e0 : ev ⟨callF wd 100 progD f, wd⟩ (.bf .len [(.v 0)]) [.fz (sS s), .ow (((List.range s.length).map (del s)).map sS), .un, .un, .un] = .pu (.d (.int (s.length : Nat))) := by
        simp [ofO_some, M.pu_bd, exsx_nil, exsx_cons, exx_asg, exx_par, exx_ret, exx_retN, exx_iff, exx_for, exx_whl, exx_raise, exx_gput, evx_c, evx_v, evx_bin, evx_cmp, evx_chain, evx_and, evx_or, evx_not, evx_tup, evx_lst, evx_ix, evx_sl, evx_bf, evx_call, evx_gix, evx_ite, evsx_nil, evsx_cons, evT, evO, evOT, Env.get, bf_one, bf1, isi_str, isi_tup, isStr, isTupD, asD, truD, cmpD, cmpOp, eqE, nilEq, solid, endD, slOf, dOf, toInt, seqOf, seqE, seqS, seqJ, setTg, setTgs, List.mapM_cons, List.mapM_nil, Option.bind, Option.map, sS, lenD]
      have e1 : ev ⟨callF wd 100 progD f, wd⟩ (.c (.int 1)) [.fz (sS s), .ow (((List.range s.length).map (del s)).map sS), .un, .un, .un] = .pu (.d (.int ((1 : Nat) : Int))) := by
        simp [ofO_some, M.pu_bd, exsx_nil, exsx_cons, exx_asg, exx_par, exx_ret, exx_retN, exx_iff, exx_for, exx_whl, exx_raise, exx_gput, evx_c, evx_v, evx_bin, evx_cmp, evx_chain, evx_and, evx_or, evx_not, evx_tup, evx_lst, evx_ix, evx_sl, evx_bf, evx_call, evx_gix, evx_ite, evsx_nil, evsx_cons, evT, evO, evOT, Env.get, bf_one, bf1, isi_str, isi_tup, isStr, isTupD, asD, truD, cmpD, cmpOp, eqE, nilEq, solid, endD, slOf, dOf, toInt, seqOf, seqE, seqS, seqJ, setTg, setTgs, List.mapM_cons, List.mapM_nil, Option.bind, Option.map]
      rw [evJ_rng2, e1, M.pu_bd, e0, M.pu_bd, toInt_int, M.pu_bd, toInt_int, M.pu_bd]
      clear e0 e1
      cases hz : s.length with
      | zero =>
        have : rngD ((1 : Nat) : Int) ((0 : Nat) : Int) = some [] := by
          unfold rngD
          rw [if_pos (by omega)]
          rfl
        rw [this]; rfl
      | succ n =>
        have := rng1_n 1 n (by omega)
        rw [show ((n + 1 : Nat) : Int) = ((1 + n : Nat) : Int) by omega, this]
        rfl
    rw [ej, M.pu_bd, e2]
    unfold chg
    rw [List.map_append]
  show ((exSs ⟨callF wd 100 progD f, wd⟩ 100 [(.asgF 1 (.lc (.n 2) (.rng1 (.bf .len [(.v 0)])) none DELX [2])), (.for_ (.n 2) (.rng2 (.c (.int (1))) (.bf .len [(.v 0)])) SWB), (.fr [1] (.ret (.v 1)))] [.fz (sS s), .un, .un, .un, .un]).bd endD) = _
  rw [sqP t1, sqP t2]
  have xfr : ∀ env, exS ⟨callF wd 100 progD f, wd⟩ 100 (.fr [1] (.ret (.v 1))) env = exS ⟨callF wd 100 progD f, wd⟩ 100 (.ret (.v 1)) (freezeE env [1]) := fun env => by simp only [exS]
  rw [exsx_cons, xfr]
  simp [freezeE, frz1, ofO_some, M.pu_bd, exsx_nil, exsx_cons, exx_asg, exx_par, exx_ret, exx_retN, exx_iff, exx_for, exx_whl, exx_raise, exx_gput, evx_c, evx_v, evx_bin, evx_cmp, evx_chain, evx_and, evx_or, evx_not, evx_tup, evx_lst, evx_ix, evx_sl, evx_bf, evx_call, evx_gix, evx_ite, evsx_nil, evsx_cons, evT, evO, evOT, Env.get, bf_one, bf1, isi_str, isi_tup, isStr, isTupD, asD, truD, cmpD, cmpOp, eqE, nilEq, solid, endD, slOf, dOf, toInt, seqOf, seqE, seqS, seqJ, setTg, setTgs, List.mapM_cons, List.mapM_nil, Option.bind, Option.map]
end Kk28
end
section
set_option Elab.async false
set_option linter.all false
set_option maxRecDepth 1000000
set_option maxHeartbeats 8000000
namespace Kk28
open PySem PySem.Spec L2 PD

def withK (ss : List Sc) (k : Nat) (c : Sc) : List Sc := ss.take k ++ [c] ++ ss.drop (k + 1)
def allF (g : Sc → List Sc) (ss : List Sc) : Nat → List Sc → List (List Sc)
  | _, [] => []
  | k, s :: r => (g s).map (withK ss k) ++ allF g ss (k + 1) r
section
variable {F : Fns} {n : Nat} {env : PD.Env}
theorem exx_ad {i : Nat} {ds : List D} (e : E) (h : env[i]? = some (.oc (.set ds))) : exS F n (.ad i e) env = (ev F e env).bd fun x => (solid x).bd fun d => (M.ofO (addS ds d)).bd fun es => .pu (.nx (env.set i (.oc (.set es)))) := by simp only [exS, h]
theorem exx_newS (i : Nat) : exS F n (.newS i) env = if i < env.length then .pu (.nx (env.set i (.oc (.set [])))) else .stuck := by simp only [exS]
theorem exx_newD (i : Nat) : exS F n (.newD i) env = if i < env.length then .pu (.nx (env.set i (.oc (.dct [])))) else .stuck := by simp only [exS]
theorem exx_dp {i : Nat} {kvs : List (D × D)} (k e : E) (h : env[i]? = some (.oc (.dct kvs))) : exS F n (.dp i k e) env = (ev F e env).bd fun x => (solid x).bd fun v => (ev F k env).bd fun y => (solid y).bd fun d => (M.ofO (putS kvs d v)).bd fun r => .pu (.nx (env.set i (.oc (.dct r)))) := by simp only [exS, h]
theorem exx_tryE (i : Nat) (e : E) (c : Str) : exS F n (.tryE i e c) env = if i < env.length then M.tryC (ev F e env) c env else .stuck := by simp only [exS]
end
def KX (a b c : Nat) : E := (.bin .Add (.bin .Add (.sl (.v a) none (some (.v b))) (.tup [(.v c)])) (.sl (.v a) (some (.bin .Add (.v b) (.c (.int (1))))) none))
theorem kx0 {F : Fns} {env : PD.Env} {a b c : Nat} {X A B : List D} {i : Int} {d : D} (ha : env[a]? = some (.fz (.tuple X))) (hb : env[b]? = some (.fz (.int i))) (hc : env[c]? = some (.fz d)) (c1 : cutD X none (some i) = A) (c2 : cutD X (some (i + 1)) none = B) (hl : A.length + B.length ≤ 100) :
    ev F (KX a b c) env = .pu (.d (.tuple (A ++ [d] ++ B))) := by
  have a1 := addD_tup (a := A) (b := [d]) (by rw [sizeLine_eq]; simp; omega)
  have a2 := addD_tup (a := A ++ [d]) (b := B) (by rw [sizeLine_eq]; simp; omega)
  rw [List.append_assoc] at a2
  have z1 := one_s
  simp [KX, ofO_some, M.pu_bd, exsx_nil, exsx_cons, exx_asg, exx_par, exx_ret, exx_retN, exx_iff, exx_for, exx_whl, exx_raise, exx_gput, evx_c, evx_v, evx_bin, evx_cmp, evx_chain, evx_and, evx_or, evx_not, evx_tup, evx_lst, evx_ix, evx_sl, evx_bf, evx_call, evx_gix, evx_ite, evsx_nil, evsx_cons, evT, evO, evOT, Env.get, bf_one, bf1, isi_str, isi_tup, isStr, isTupD, asD, truD, cmpD, cmpOp, eqE, nilEq, solid, endD, slOf, dOf, toInt, seqOf, seqE, seqS, seqJ, setTg, setTgs, List.mapM_cons, List.mapM_nil, Option.bind, Option.map, ha, hb, hc, slD_tup, binD, opD, addD_int, c1, c2, z1, a1, a2]
theorem withK_eq (ss : List Sc) (k : Nat) (c : Sc) : PyData.tuple ((ss.map sS).take k ++ [sS c] ++ (ss.map sS).drop (k + 1)) = shS (withK ss k c) := by
  unfold shS withK
  rw [List.map_append, List.map_append, List.map_take, List.map_drop]
  rfl
theorem kx {F : Fns} {env : PD.Env} {a b c : Nat} {ss : List Sc} {k : Nat} {x : Sc} (ha : env[a]? = some (.fz (shS ss))) (hb : env[b]? = some (.fz (.int k))) (hc : env[c]? = some (.fz (sS x))) (hs : ss.length ≤ 4) :
    ev F (KX a b c) env = .pu (.d (shS (withK ss k x))) := by
  rw [← withK_eq]
  exact kx0 (X := ss.map sS) ha hb hc (cut_to _ k) (cut_from _ (k + 1)) (by simp; omega)
/-! ### the program's mends -/
def MB : List Sm := [(.ad 2 (KX 1 3 5))]
def MB2 : List Sm := [(.for_ (.n 5) (.e (.call 10 [(.v 4)])) MB)]
theorem mends_eq : l_mends = [(.asg (.n 1) (.ix (.call 9 [(.v 0)]) (.c (.int (2))))), (.newS 2), (.for_ (.t [3, 4]) (.enum (.v 1)) MB2), (.ret (.bf .tuple [(.u1 .srt (.v 2))]))] := rfl
section
variable {F : Fns} {s0 : Sl} {ss : List Sc} (hs : ss.length ≤ 4)
include hs
theorem mb1 (k : Nat) (s4 : Sl) : ∀ (cs : List Sc) (l : List (List Sc)) (s5 : Sl), l.length + cs.length < 63 → ∃ s5', forB (.n 5) (exSs F 100 MB) (cs.map sS) [s0, .fz (shS ss), .oc (.set (l.map shS)), .fz (.int k), s4, s5] =
    .pu (.nx [s0, .fz (shS ss), .oc (.set ((putsL l (cs.map (withK ss k))).map shS)), .fz (.int k), s4, s5'])
  | [], l, s5, _ => ⟨s5, rfl⟩
  | c :: cs, l, s5, hl => by
    simp only [List.length_cons] at hl
    have pl := putL_len l (withK ss k c)
    obtain ⟨s5', e⟩ := mb1 k s4 cs (putL l (withK ss k c)) (.fz (sS c)) (by omega)
    refine ⟨s5', ?_⟩
    have e1 : exSs F 100 MB [s0, .fz (shS ss), .oc (.set (l.map shS)), .fz (.int k), s4, .fz (sS c)] = .pu (.nx [s0, .fz (shS ss), .oc (.set ((putL l (withK ss k c)).map shS)), .fz (.int k), s4, .fz (sS c)]) := by
      have a := addS_shS l (withK ss k c) (by omega)
      have x := kx (F := F) (env := [s0, .fz (shS ss), .oc (.set (l.map shS)), .fz (.int k), s4, .fz (sS c)]) (a := 1) (b := 3) (c := 5) (k := k) rfl rfl rfl hs
      rw [MB, exsx_cons, exx_ad (ds := l.map shS) _ rfl, x, M.pu_bd]
      show ((M.ofO (addS (l.map shS) (shS (withK ss k c)))).bd _).bd _ = _
      rw [a]
      rfl
    rw [List.map_cons, forB_nx (env' := [s0, .fz (shS ss), .oc (.set (l.map shS)), .fz (.int k), s4, .fz (sS c)]) rfl e1, e]
    rfl
theorem mb2 (hc : ∀ s, okS s → F.call 10 [.d (sS s)] = .pu (.list ((chg s).map sS))) : ∀ (r : List Sc) (k : Nat) (l : List (List Sc)) (s3 s4 s5 : Sl), (∀ s ∈ r, okS s) → l.length + 11 * r.length < 60 → ∃ s3' s4' s5', forB (.t [3, 4]) (exSs F 100 MB2) (enumD k (r.map sS)) [s0, .fz (shS ss), .oc (.set (l.map shS)), s3, s4, s5] =
    .pu (.nx [s0, .fz (shS ss), .oc (.set ((putsL l (allF chg ss k r)).map shS)), s3', s4', s5'])
  | [], k, l, s3, s4, s5, _, _ => ⟨s3, s4, s5, rfl⟩
  | s :: r, k, l, s3, s4, s5, ok, hl => by
    simp only [List.length_cons] at hl
    have oks := ok s (by simp)
    have cl := chg_len oks.1
    have pl := puts_len ((chg s).map (withK ss k)) l
    rw [List.length_map] at pl
    obtain ⟨a5, e1⟩ := mb1 (F := F) (s0 := s0) hs k (.fz (sS s)) (chg s) l s5 (by omega)
    obtain ⟨b3, b4, b5, e2⟩ := mb2 hc r (k + 1) (putsL l ((chg s).map (withK ss k))) (.fz (.int k)) (.fz (sS s)) a5 (fun x hx => ok x (by simp [hx])) (by omega)
    refine ⟨b3, b4, b5, ?_⟩
    have e3 : exSs F 100 MB2 [s0, .fz (shS ss), .oc (.set (l.map shS)), .fz (.int k), .fz (sS s), s5] = .pu (.nx [s0, .fz (shS ss), .oc (.set ((putsL l ((chg s).map (withK ss k))).map shS)), .fz (.int k), .fz (sS s), a5]) := by
      have ej : evJ F (.e (.call 10 [(.v 4)])) [s0, .fz (shS ss), .oc (.set (l.map shS)), .fz (.int k), .fz (sS s), s5] = .pu ((chg s).map sS) := by
        simp [evJ, ofO_some, M.pu_bd, exsx_nil, exsx_cons, exx_asg, exx_par, exx_ret, exx_retN, exx_iff, exx_for, exx_whl, exx_raise, exx_gput, evx_c, evx_v, evx_bin, evx_cmp, evx_chain, evx_and, evx_or, evx_not, evx_tup, evx_lst, evx_ix, evx_sl, evx_bf, evx_call, evx_gix, evx_ite, evsx_nil, evsx_cons, evT, evO, evOT, Env.get, bf_one, bf1, isi_str, isi_tup, isStr, isTupD, asD, truD, cmpD, cmpOp, eqE, nilEq, solid, endD, slOf, dOf, toInt, seqOf, seqE, seqS, seqJ, setTg, setTgs, List.mapM_cons, List.mapM_nil, Option.bind, Option.map, hc s oks]
      rw [MB2, sqP (show exS F 100 _ _ = _ from by rw [exx_for, ej, M.pu_bd, e1]), exsx_nil]
    have es : setTg [s0, .fz (shS ss), .oc (.set (l.map shS)), s3, s4, s5] (.t [3, 4]) (.tuple [.int k, sS s]) = some [s0, .fz (shS ss), .oc (.set (l.map shS)), .fz (.int k), .fz (sS s), s5] := by
      simp [setTg, setTgs]
    show forB (.t [3, 4]) (exSs F 100 MB2) (.tuple [.int k, sS s] :: enumD (k + 1) (r.map sS)) _ = _
    rw [forB_nx es e3, e2, ← puts_app]
    rfl
end
def mnd (ss : List Sc) : List (List Sc) := putsL [] (allF chg ss 0 ss)
theorem allF_len {g : Sc → List Sc} (hg : ∀ s, okS s → (g s).length ≤ 11) (ss : List Sc) : ∀ (r : List Sc) (k : Nat), (∀ s ∈ r, okS s) → (allF g ss k r).length ≤ 11 * r.length
  | [], _, _ => by simp [allF]
  | s :: r, k, h => by
    have h1 := allF_len hg ss r (k + 1) fun x hx => h x (by simp [hx])
    have h2 := hg s (h s (by simp))
    simp only [allF, List.length_append, List.length_map, List.length_cons]
    omega
theorem allF_mem {g : Sc → List Sc} {ss : List Sc} {x : List Sc} : ∀ {r : List Sc} {k : Nat}, x ∈ allF g ss k r → ∃ j s c, r[j]? = some s ∧ c ∈ g s ∧ x = withK ss (k + j) c
  | [], _, h => by simp [allF] at h
  | s :: r, k, h => by
    simp only [allF, List.mem_append, List.mem_map] at h
    rcases h with ⟨c, hc, rfl⟩ | h
    · exact ⟨0, s, c, rfl, hc, rfl⟩
    · obtain ⟨j, s', c, h1, h2, h3⟩ := allF_mem h
      exact ⟨j + 1, s', c, by simpa using h1, h2, by rw [h3]; congr 1; omega⟩
theorem allF_congr {g g' : Sc → List Sc} (h : ∀ s c, c ∈ g s ↔ c ∈ g' s) (ss : List Sc) (x : List Sc) : ∀ (r : List Sc) (k : Nat), x ∈ allF g ss k r ↔ x ∈ allF g' ss k r
  | [], _ => Iff.rfl
  | s :: r, k => by
    simp only [allF, List.mem_append, List.mem_map]
    rw [allF_congr h ss x r (k + 1)]
    simp only [h s]
theorem withK_ne (ss : List Sc) (k : Nat) (c : Sc) : withK ss k c ≠ [] := by
  unfold withK
  simp
theorem srt_mnd {g : Sc → List Sc} (ss : List Sc) : srtOk ((putsL [] (allF g ss 0 ss)).map shS) = true := by
  refine srt_shS (l := putsL [] (allF g ss 0 ss)) fun x hx => ?_
  rcases puts_mem.mp hx with h | h
  · exact absurd h (by simp)
  · obtain ⟨j, s, c, _, _, rfl⟩ := allF_mem h
    exact withK_ne _ _ _
theorem mends (f : Nat) {ks r : D} {ss : List Sc} (e : setupF (.tuple [ks, r, shS ss]) = none) (hl : ss.length ≤ 4) (ok : ∀ s ∈ ss, okS s) : callF wd 100 progD (f + 6) 11 [.d (.tuple [ks, r, shS ss])] = .pu (.tuple (isortD ((mnd ss).map shS))) := by
  rw [call1 q11, mends_eq]
  show ((exSs ⟨callF wd 100 progD (f + 5), wd⟩ 100 _ [.fz (.tuple [ks, r, shS ss]), .un, .un, .un, .un, .un]).bd endD) = _
  have nd := need_ok f _ e
  have i2 : atI [ks, r, shS ss] 2 = some (shS ss) := rfl
  have t1 : exS ⟨callF wd 100 progD (f + 5), wd⟩ 100 (.asg (.n 1) (.ix (.call 9 [(.v 0)]) (.c (.int (2))))) [.fz (.tuple [ks, r, shS ss]), .un, .un, .un, .un, .un] = .pu (.nx [.fz (.tuple [ks, r, shS ss]), .fz (shS ss), .un, .un, .un, .un]) := by
    simp [ofO_some, M.pu_bd, exsx_nil, exsx_cons, exx_asg, exx_par, exx_ret, exx_retN, exx_iff, exx_for, exx_whl, exx_raise, exx_gput, evx_c, evx_v, evx_bin, evx_cmp, evx_chain, evx_and, evx_or, evx_not, evx_tup, evx_lst, evx_ix, evx_sl, evx_bf, evx_call, evx_gix, evx_ite, evsx_nil, evsx_cons, evT, evO, evOT, Env.get, bf_one, bf1, isi_str, isi_tup, isStr, isTupD, asD, truD, cmpD, cmpOp, eqE, nilEq, solid, endD, slOf, dOf, toInt, seqOf, seqE, seqS, seqJ, setTg, setTgs, List.mapM_cons, List.mapM_nil, Option.bind, Option.map, nd, ixD, itD, i2]
  have t2 : exS ⟨callF wd 100 progD (f + 5), wd⟩ 100 (.newS 2) [.fz (.tuple [ks, r, shS ss]), .fz (shS ss), .un, .un, .un, .un] = .pu (.nx [.fz (.tuple [ks, r, shS ss]), .fz (shS ss), .oc (.set (([] : List (List Sc)).map shS)), .un, .un, .un]) := by
    rw [exx_newS]
    rfl
  have hc : ∀ s, okS s → callF wd 100 progD (f + 5) 10 [.d (sS s)] = .pu (.list ((chg s).map sS)) := fun s hs => changed (f + 4) hs
  obtain ⟨a, b, c, e3⟩ := mb2 (F := ⟨callF wd 100 progD (f + 5), wd⟩) (s0 := .fz (.tuple [ks, r, shS ss])) hl (by intro s hs; dsimp only; exact hc s hs) ss 0 [] .un .un .un ok (by simp; omega)
  have t3 : exS ⟨callF wd 100 progD (f + 5), wd⟩ 100 (.for_ (.t [3, 4]) (.enum (.v 1)) MB2) [.fz (.tuple [ks, r, shS ss]), .fz (shS ss), .oc (.set (([] : List (List Sc)).map shS)), .un, .un, .un] = .pu (.nx [.fz (.tuple [ks, r, shS ss]), .fz (shS ss), .oc (.set ((mnd ss).map shS)), a, b, c]) := by
    have ej : evJ ⟨callF wd 100 progD (f + 5), wd⟩ (.enum (.v 1)) [.fz (.tuple [ks, r, shS ss]), .fz (shS ss), .oc (.set (([] : List (List Sc)).map shS)), .un, .un, .un] = .pu (enumD 0 (ss.map sS)) := by
      simp [evJ, ofO_some, M.pu_bd, exsx_nil, exsx_cons, exx_asg, exx_par, exx_ret, exx_retN, exx_iff, exx_for, exx_whl, exx_raise, exx_gput, evx_c, evx_v, evx_bin, evx_cmp, evx_chain, evx_and, evx_or, evx_not, evx_tup, evx_lst, evx_ix, evx_sl, evx_bf, evx_call, evx_gix, evx_ite, evsx_nil, evsx_cons, evT, evO, evOT, Env.get, bf_one, bf1, isi_str, isi_tup, isStr, isTupD, asD, truD, cmpD, cmpOp, eqE, nilEq, solid, endD, slOf, dOf, toInt, seqOf, seqE, seqS, seqJ, setTg, setTgs, List.mapM_cons, List.mapM_nil, Option.bind, Option.map, shS]
    rw [exx_for, ej, M.pu_bd, e3]
    rfl
  have so := srt_mnd (g := chg) ss
  rw [sqP t1, sqP t2, sqP t3]
  simp [ofO_some, M.pu_bd, exsx_nil, exsx_cons, exx_asg, exx_par, exx_ret, exx_retN, exx_iff, exx_for, exx_whl, exx_raise, exx_gput, evx_c, evx_v, evx_bin, evx_cmp, evx_chain, evx_and, evx_or, evx_not, evx_tup, evx_lst, evx_ix, evx_sl, evx_bf, evx_call, evx_gix, evx_ite, evsx_nil, evsx_cons, evT, evO, evOT, Env.get, bf_one, bf1, isi_str, isi_tup, isStr, isTupD, asD, truD, cmpD, cmpOp, eqE, nilEq, solid, endD, slOf, dOf, toInt, seqOf, seqE, seqS, seqJ, setTg, setTgs, List.mapM_cons, List.mapM_nil, Option.bind, Option.map, evx_u1, u1V, mnd, so, tupleD]
end Kk28
end
section
set_option Elab.async false
set_option linter.all false
set_option maxRecDepth 1000000
set_option maxHeartbeats 8000000
namespace Kk28
open PySem PySem.Spec L2 PD

/-! ### the law's mends -/
def DELK : E := (.bin .Add (.sl (.v 3) none (some (.v 4))) (.sl (.v 3) (some (.bin .Add (.v 4) (.c (.int (1))))) none))
def K1 : E := (.bin .Add (.bin .Add (.sl (.v 0) none (some (.v 2))) (.tup [DELK])) (.sl (.v 0) (some (.bin .Add (.v 2) (.c (.int (1))))) none))
def TX : E := (.bin .Add (.bin .Add (.sl (.v 3) none (some (.v 4))) (.u1 .rev (.sl (.v 3) (some (.v 4)) (some (.bin .Add (.v 4) (.c (.int (2)))))))) (.sl (.v 3) (some (.bin .Add (.v 4) (.c (.int (2))))) none))
def LB : List Sm := [(.dp 1 K1 (.c (.bool true))), (.asg (.n 5) TX), (.iff (.cmp .NotEq (.v 5) (.v 3)) [(.dp 1 (KX 0 2 5) (.c (.bool true)))] [])]
def LB2 : List Sm := [(.for_ (.n 4) (.rng1 (.bf .len [(.v 3)])) LB)]
theorem lmends_eq : l__law_mends = [(.newD 1), (.for_ (.t [2, 3]) (.enum (.v 0)) LB2), (.ret (.bf .tuple [(.u1 .srt (.bf .list [(.v 1)]))]))] := rfl
theorem tx0 {F : Fns} {env : PD.Env} {X A M' B : List D} {i : Int} (ha : env[3]? = some (.fz (.tuple X))) (hb : env[4]? = some (.fz (.int i))) (c1 : cutD X none (some i) = A) (c2 : cutD X (some i) (some (i + 2)) = M') (c3 : cutD X (some (i + 2)) none = B) (hl : A.length + M'.length + B.length ≤ 100) :
    ev F TX env = .pu (.d (.tuple (A ++ M'.reverse ++ B))) := by
  have a1 := addD_tup (a := A) (b := M'.reverse) (by rw [sizeLine_eq]; simp; omega)
  have a2 := addD_tup (a := A ++ M'.reverse) (b := B) (by rw [sizeLine_eq]; simp; omega)
  rw [List.append_assoc] at a2
  simp [TX, ofO_some, M.pu_bd, exsx_nil, exsx_cons, exx_asg, exx_par, exx_ret, exx_retN, exx_iff, exx_for, exx_whl, exx_raise, exx_gput, evx_c, evx_v, evx_bin, evx_cmp, evx_chain, evx_and, evx_or, evx_not, evx_tup, evx_lst, evx_ix, evx_sl, evx_bf, evx_call, evx_gix, evx_ite, evsx_nil, evsx_cons, evT, evO, evOT, Env.get, bf_one, bf1, isi_str, isi_tup, isStr, isTupD, asD, truD, cmpD, cmpOp, eqE, nilEq, solid, endD, slOf, dOf, toInt, seqOf, seqE, seqS, seqJ, setTg, setTgs, List.mapM_cons, List.mapM_nil, Option.bind, Option.map, evx_u1, revD, u1D, ha, hb, slD_tup, binD, opD, addD_int, c1, c2, c3, a1, a2]
theorem k1x {F : Fns} {env : PD.Env} {X A B Y A2 B2 : List D} {i j : Int} (ha : env[0]? = some (.fz (.tuple X))) (hb : env[2]? = some (.fz (.int i))) (hc : env[3]? = some (.fz (.tuple Y))) (hd : env[4]? = some (.fz (.int j)))
    (c1 : cutD X none (some i) = A) (c2 : cutD X (some (i + 1)) none = B) (c3 : cutD Y none (some j) = A2) (c4 : cutD Y (some (j + 1)) none = B2) (hl : A.length + B.length ≤ 100) (hl2 : A2.length + B2.length ≤ 100) :
    ev F K1 env = .pu (.d (.tuple (A ++ [.tuple (A2 ++ B2)] ++ B))) := by
  have a0 := addD_tup (a := A2) (b := B2) (by rw [sizeLine_eq]; omega)
  have a1 := addD_tup (a := A) (b := [.tuple (A2 ++ B2)]) (by rw [sizeLine_eq]; simp; omega)
  have a2 := addD_tup (a := A ++ [.tuple (A2 ++ B2)]) (b := B) (by rw [sizeLine_eq]; simp; omega)
  rw [List.append_assoc] at a2
  have z1 := one_s
  simp [K1, DELK, ofO_some, M.pu_bd, exsx_nil, exsx_cons, exx_asg, exx_par, exx_ret, exx_retN, exx_iff, exx_for, exx_whl, exx_raise, exx_gput, evx_c, evx_v, evx_bin, evx_cmp, evx_chain, evx_and, evx_or, evx_not, evx_tup, evx_lst, evx_ix, evx_sl, evx_bf, evx_call, evx_gix, evx_ite, evsx_nil, evsx_cons, evT, evO, evOT, Env.get, bf_one, bf1, isi_str, isi_tup, isStr, isTupD, asD, truD, cmpD, cmpOp, eqE, nilEq, solid, endD, slOf, dOf, toInt, seqOf, seqE, seqS, seqJ, setTg, setTgs, List.mapM_cons, List.mapM_nil, Option.bind, Option.map, ha, hb, hc, hd, slD_tup, binD, opD, addD_int, c1, c2, c3, c4, z1, a0, a1, a2]
def lch (s : Sc) : List Sc := (List.range s.length).flatMap fun at_ => del s at_ :: (if dif s at_ = true then [swp s at_] else [])
def lchF (s : Sc) (js : List Nat) : List Sc := js.flatMap fun at_ => del s at_ :: (if dif s at_ = true then [swp s at_] else [])
section
variable {F : Fns} {ss : List Sc} (hs : ss.length ≤ 4)
include hs
theorem lb0 {s : Sc} (ok : okS s) (k j : Nat) (l : List (List Sc)) (hl : l.length < 90) (s5 : Sl) : ∃ s5', exSs F 100 LB [.fz (shS ss), .oc (.dct (l.map dT)), .fz (.int k), .fz (sS s), .fz (.int j), s5] =
    .pu (.nx [.fz (shS ss), .oc (.dct ((putsL l ((del s j :: (if dif s j = true then [swp s j] else [])).map (withK ss k))).map dT)), .fz (.int k), .fz (sS s), .fz (.int j), s5']) := by
  have hsl := ok.1
  have pl := putL_len l (withK ss k (del s j))
  have x1 : ev F K1 [.fz (shS ss), .oc (.dct (l.map dT)), .fz (.int k), .fz (sS s), .fz (.int j), s5] = .pu (.d (shS (withK ss k (del s j)))) := by
    have h := k1x (F := F) (env := [.fz (shS ss), .oc (.dct (l.map dT)), .fz (.int k), .fz (sS s), .fz (.int j), s5]) (X := ss.map sS) (Y := s.map .str) (i := k) (j := j) rfl rfl rfl rfl (cut_to _ k) (cut_from _ (k + 1)) (cut_to _ j) (cut_from _ (j + 1)) (by simp; omega) (by simp; omega)
    rw [h, ← withK_eq]
    have e : sS (del s j) = .tuple ((s.map PyData.str).take j ++ (s.map PyData.str).drop (j + 1)) := by
      unfold sS del
      rw [List.map_append, List.map_take, List.map_drop]
    rw [e]
  have t1 : exS F 100 (.dp 1 K1 (.c (.bool true))) [.fz (shS ss), .oc (.dct (l.map dT)), .fz (.int k), .fz (sS s), .fz (.int j), s5] = .pu (.nx [.fz (shS ss), .oc (.dct ((putL l (withK ss k (del s j))).map dT)), .fz (.int k), .fz (sS s), .fz (.int j), s5]) := by
    have p := putS_shS l (withK ss k (del s j)) (by omega)
    rw [exx_dp (kvs := l.map dT) _ _ rfl, x1]
    have eb : ev F (.c (.bool true)) [.fz (shS ss), .oc (.dct (l.map dT)), .fz (.int k), .fz (sS s), .fz (.int j), s5] = .pu (.d (.bool true)) := by simp only [ev]
    rw [eb]
    show ((M.ofO (putS (l.map dT) (shS (withK ss k (del s j))) (.bool true))).bd _) = _
    rw [p]
    rfl
  have x2 : ∀ c, ev F TX [.fz (shS ss), .oc c, .fz (.int k), .fz (sS s), .fz (.int j), s5] = .pu (.d (sS (swp s j))) := fun c => by
    have h := tx0 (F := F) (env := [.fz (shS ss), .oc c, .fz (.int k), .fz (sS s), .fz (.int j), s5]) (X := s.map .str) (i := j) rfl rfl (cut_to _ j) (cut_mid _ j (j + 2)) (cut_from _ (j + 2)) (by simp; omega)
    rw [h]
    unfold sS swp
    rw [List.map_append, List.map_append, List.map_take, List.map_reverse, List.map_take, List.map_drop, List.map_drop, show j + 2 - j = 2 by omega]
  have t2 : exS F 100 (.asg (.n 5) TX) [.fz (shS ss), .oc (.dct ((putL l (withK ss k (del s j))).map dT)), .fz (.int k), .fz (sS s), .fz (.int j), s5] = .pu (.nx [.fz (shS ss), .oc (.dct ((putL l (withK ss k (del s j))).map dT)), .fz (.int k), .fz (sS s), .fz (.int j), .fz (sS (swp s j))]) := by
    rw [exx_asg, x2]
    rfl
  refine ⟨.fz (sS (swp s j)), ?_⟩
  rw [LB, sqP t1, sqP t2, exsx_cons, exx_iff]
  have wsw : ∀ w ∈ swp s j, w ∈ steps := fun w hw => by
    unfold swp at hw
    simp only [List.mem_append, List.mem_reverse] at hw
    rcases hw with (hw | hw) | hw
    · exact ok.2 w (List.mem_of_mem_take hw)
    · exact ok.2 w (List.mem_of_mem_drop (List.mem_of_mem_take hw))
    · exact ok.2 w (List.mem_of_mem_drop hw)
  have tt : evT F (.cmp .NotEq (.v 5) (.v 3)) [.fz (shS ss), .oc (.dct ((putL l (withK ss k (del s j))).map dT)), .fz (.int k), .fz (sS s), .fz (.int j), .fz (sS (swp s j))] = .pu (dif s j) := by
    have q1 := sh_sS wsw
    have q2 := sh_sS ok.2
    have q3 := eqv_sS (swp s j) s
    simp [ofO_some, M.pu_bd, exsx_nil, exsx_cons, exx_asg, exx_par, exx_ret, exx_retN, exx_iff, exx_for, exx_whl, exx_raise, exx_gput, evx_c, evx_v, evx_bin, evx_cmp, evx_chain, evx_and, evx_or, evx_not, evx_tup, evx_lst, evx_ix, evx_sl, evx_bf, evx_call, evx_gix, evx_ite, evsx_nil, evsx_cons, evT, evO, evOT, Env.get, bf_one, bf1, isi_str, isi_tup, isStr, isTupD, asD, truD, cmpD, cmpOp, eqE, nilEq, solid, endD, slOf, dOf, toInt, seqOf, seqE, seqS, seqJ, setTg, setTgs, List.mapM_cons, List.mapM_nil, Option.bind, Option.map, eqD, q1, q2, q3, dif]
  rw [tt, M.pu_bd]
  cases d : dif s j with
  | false => rfl
  | true =>
    rw [if_pos rfl]
    have x3 := kx (F := F) (env := [.fz (shS ss), .oc (.dct ((putL l (withK ss k (del s j))).map dT)), .fz (.int k), .fz (sS s), .fz (.int j), .fz (sS (swp s j))]) (a := 0) (b := 2) (c := 5) (k := k) rfl rfl rfl hs
    have p := putS_shS (putL l (withK ss k (del s j))) (withK ss k (swp s j)) (by omega)
    rw [exsx_cons, exx_dp (kvs := (putL l (withK ss k (del s j))).map dT) _ _ rfl, x3]
    have eb : ev F (.c (.bool true)) [.fz (shS ss), .oc (.dct ((putL l (withK ss k (del s j))).map dT)), .fz (.int k), .fz (sS s), .fz (.int j), .fz (sS (swp s j))] = .pu (.d (.bool true)) := by simp only [ev]
    rw [eb]
    show ((((M.ofO (putS ((putL l (withK ss k (del s j))).map dT) (shS (withK ss k (swp s j))) (.bool true))).bd _).bd _).bd _) = _
    rw [p]
    rfl
theorem lb1 {s : Sc} (ok : okS s) (k : Nat) : ∀ (js : List Nat) (l : List (List Sc)) (s4 s5 : Sl), l.length + 2 * js.length < 90 → ∃ s4' s5', forB (.n 4) (exSs F 100 LB) (js.map fun (j : Nat) => .int j) [.fz (shS ss), .oc (.dct (l.map dT)), .fz (.int k), .fz (sS s), s4, s5] =
    .pu (.nx [.fz (shS ss), .oc (.dct ((putsL l ((lchF s js).map (withK ss k))).map dT)), .fz (.int k), .fz (sS s), s4', s5'])
  | [], l, s4, s5, _ => ⟨s4, s5, rfl⟩
  | j :: js, l, s4, s5, hl => by
    simp only [List.length_cons] at hl
    obtain ⟨a5, e1⟩ := lb0 (F := F) hs ok k j l (by omega) s5
    have pl := puts_len ((del s j :: (if dif s j = true then [swp s j] else [])).map (withK ss k)) l
    have p2 : ((del s j :: (if dif s j = true then [swp s j] else [])).map (withK ss k)).length ≤ 2 := by
      split <;> simp
    obtain ⟨b4, b5, e2⟩ := lb1 ok k js (putsL l ((del s j :: (if dif s j = true then [swp s j] else [])).map (withK ss k))) (.fz (.int j)) a5 (by omega)
    refine ⟨b4, b5, ?_⟩
    have e3 : lchF s (j :: js) = (del s j :: (if dif s j = true then [swp s j] else [])) ++ lchF s js := rfl
    rw [List.map_cons, forB_nx (env' := [.fz (shS ss), .oc (.dct (l.map dT)), .fz (.int k), .fz (sS s), .fz (.int j), s5]) rfl e1, e2, ← puts_app, e3, List.map_append]
theorem lb2 : ∀ (r : List Sc) (k : Nat) (l : List (List Sc)) (s2 s3 s4 s5 : Sl), (∀ s ∈ r, okS s) → l.length + 12 * r.length < 60 → ∃ s2' s3' s4' s5', forB (.t [2, 3]) (exSs F 100 LB2) (enumD k (r.map sS)) [.fz (shS ss), .oc (.dct (l.map dT)), s2, s3, s4, s5] =
    .pu (.nx [.fz (shS ss), .oc (.dct ((putsL l (allF lch ss k r)).map dT)), s2', s3', s4', s5'])
  | [], k, l, s2, s3, s4, s5, _, _ => ⟨s2, s3, s4, s5, rfl⟩
  | s :: r, k, l, s2, s3, s4, s5, ok, hl => by
    simp only [List.length_cons] at hl
    have oks := ok s (by simp)
    have h6 := oks.1
    obtain ⟨a4, a5, e1⟩ := lb1 (F := F) hs oks k (List.range s.length) l s4 s5 (by simp; omega)
    have pl := puts_len ((lch s).map (withK ss k)) l
    have p2 : ((lch s).map (withK ss k)).length ≤ 12 := by
      rw [List.length_map]
      have key : ∀ js : List Nat, (lchF s js).length ≤ 2 * js.length := fun js => by
        induction js with
        | nil => simp [lchF]
        | cons j js ih =>
          have e3 : lchF s (j :: js) = (del s j :: (if dif s j = true then [swp s j] else [])) ++ lchF s js := rfl
          have : (del s j :: (if dif s j = true then [swp s j] else [])).length ≤ 2 := by split <;> simp
          rw [e3, List.length_append, List.length_cons (as := js)]
          omega
      have := key (List.range s.length)
      rw [List.length_range] at this
      have e : lch s = lchF s (List.range s.length) := rfl
      rw [e]
      omega
    obtain ⟨b2, b3, b4, b5, e2⟩ := lb2 r (k + 1) (putsL l ((lch s).map (withK ss k))) (.fz (.int k)) (.fz (sS s)) a4 a5 (fun x hx => ok x (by simp [hx])) (by omega)
    refine ⟨b2, b3, b4, b5, ?_⟩
    have e3 : exSs F 100 LB2 [.fz (shS ss), .oc (.dct (l.map dT)), .fz (.int k), .fz (sS s), s4, s5] = .pu (.nx [.fz (shS ss), .oc (.dct ((putsL l ((lch s).map (withK ss k))).map dT)), .fz (.int k), .fz (sS s), a4, a5]) := by
      have ej : evJ F (.rng1 (.bf .len [(.v 3)])) [.fz (shS ss), .oc (.dct (l.map dT)), .fz (.int k), .fz (sS s), s4, s5] = .pu ((List.range s.length).map fun (j : Nat) => .int j) := by
        have e0 : ev F (.bf .len [(.v 3)]) [.fz (shS ss), .oc (.dct (l.map dT)), .fz (.int k), .fz (sS s), s4, s5] = .pu (.d (.int (s.length : Nat))) := by
          simp [ofO_some, M.pu_bd, exsx_nil, exsx_cons, exx_asg, exx_par, exx_ret, exx_retN, exx_iff, exx_for, exx_whl, exx_raise, exx_gput, evx_c, evx_v, evx_bin, evx_cmp, evx_chain, evx_and, evx_or, evx_not, evx_tup, evx_lst, evx_ix, evx_sl, evx_bf, evx_call, evx_gix, evx_ite, evsx_nil, evsx_cons, evT, evO, evOT, Env.get, bf_one, bf1, isi_str, isi_tup, isStr, isTupD, asD, truD, cmpD, cmpOp, eqE, nilEq, solid, endD, slOf, dOf, toInt, seqOf, seqE, seqS, seqJ, setTg, setTgs, List.mapM_cons, List.mapM_nil, Option.bind, Option.map, sS, lenD]
        have e1 : ∀ env, evJ F (.rng1 (.bf .len [(.v 3)])) env = evI F (.rng1 (.bf .len [(.v 3)])) env := fun env => by simp only [evJ]
        have e2 := rng_n s.length (by omega)
        rw [e1, evI_rng1, e0, M.pu_bd, toInt_int, M.pu_bd, e2]
        exact ofO_some
      rw [LB2, sqP (show exS F 100 _ _ = _ from by rw [exx_for, ej, M.pu_bd, e1]), exsx_nil]
      rfl
    have es : setTg [.fz (shS ss), .oc (.dct (l.map dT)), s2, s3, s4, s5] (.t [2, 3]) (.tuple [.int k, sS s]) = some [.fz (shS ss), .oc (.dct (l.map dT)), .fz (.int k), .fz (sS s), s4, s5] := by
      simp [setTg, setTgs]
    show forB (.t [2, 3]) (exSs F 100 LB2) (.tuple [.int k, sS s] :: enumD (k + 1) (r.map sS)) _ = _
    rw [forB_nx es e3, e2, ← puts_app]
    rfl
end
theorem dif_last {s : Sc} {j : Nat} (h : s.length ≤ j + 1) : dif s j = false := by
  unfold dif swp
  have e : ((s.drop j).take 2).reverse = s.drop j := by
    have hl : (s.drop j).length ≤ 1 := by simp; omega
    rw [List.take_of_length_le (by omega)]
    match s.drop j, hl with
    | [], _ => rfl
    | [x], _ => rfl
    | _ :: _ :: _, hl => simp at hl
  have e2 : s.drop (j + 2) = [] := List.drop_of_length_le (by omega)
  rw [e, e2, List.append_nil, List.take_append_drop]
  simp
theorem chg_lch (s c : Sc) : c ∈ chg s ↔ c ∈ lch s := by
  simp only [chg, lch, List.mem_append, List.mem_map, List.mem_flatMap, List.mem_range, List.mem_filter, List.mem_cons]
  constructor
  · rintro (⟨j, hj, rfl⟩ | ⟨j, ⟨hj, hd⟩, rfl⟩)
    · exact ⟨j, hj, .inl rfl⟩
    · exact ⟨j, by omega, .inr (by rw [if_pos hd]; simp)⟩
  · rintro ⟨j, hj, rfl | h⟩
    · exact .inl ⟨j, hj, rfl⟩
    · split at h
      · rename_i hd
        have h := List.mem_singleton.mp h
        subst h
        refine .inr ⟨j, ⟨?_, hd⟩, rfl⟩
        by_cases c : s.length ≤ j + 1
        · rw [dif_last c] at hd; cases hd
        · omega
      · cases h
def lmnd (ss : List Sc) : List (List Sc) := putsL [] (allF lch ss 0 ss)
theorem sort_same (ss : List Sc) : isortD ((mnd ss).map shS) = isortD ((lmnd ss).map shS) :=
  isort_shS (puts_nodup .nil) (puts_nodup .nil) fun x => by
    unfold mnd lmnd
    rw [puts_mem, puts_mem, allF_congr chg_lch]
theorem law_mends (f : Nat) {ss : List Sc} (hl : ss.length ≤ 4) (ok : ∀ s ∈ ss, okS s) : callF wd 100 progD (f + 1) 17 [.d (shS ss)] = .pu (.tuple (isortD ((lmnd ss).map shS))) := by
  rw [call1 q17, lmends_eq]
  show ((exSs ⟨callF wd 100 progD f, wd⟩ 100 _ [.fz (shS ss), .un, .un, .un, .un, .un]).bd endD) = _
  have t2 : exS ⟨callF wd 100 progD f, wd⟩ 100 (.newD 1) [.fz (shS ss), .un, .un, .un, .un, .un] = .pu (.nx [.fz (shS ss), .oc (.dct (([] : List (List Sc)).map dT)), .un, .un, .un, .un]) := by
    rw [exx_newD]
    rfl
  obtain ⟨a, b, c, d, e3⟩ := lb2 (F := ⟨callF wd 100 progD f, wd⟩) hl ss 0 [] .un .un .un .un ok (by simp; omega)
  have t3 : exS ⟨callF wd 100 progD f, wd⟩ 100 (.for_ (.t [2, 3]) (.enum (.v 0)) LB2) [.fz (shS ss), .oc (.dct (([] : List (List Sc)).map dT)), .un, .un, .un, .un] = .pu (.nx [.fz (shS ss), .oc (.dct ((lmnd ss).map dT)), a, b, c, d]) := by
    have ej : evJ ⟨callF wd 100 progD f, wd⟩ (.enum (.v 0)) [.fz (shS ss), .oc (.dct (([] : List (List Sc)).map dT)), .un, .un, .un, .un] = .pu (enumD 0 (ss.map sS)) := by
      simp [evJ, ofO_some, M.pu_bd, exsx_nil, exsx_cons, exx_asg, exx_par, exx_ret, exx_retN, exx_iff, exx_for, exx_whl, exx_raise, exx_gput, evx_c, evx_v, evx_bin, evx_cmp, evx_chain, evx_and, evx_or, evx_not, evx_tup, evx_lst, evx_ix, evx_sl, evx_bf, evx_call, evx_gix, evx_ite, evsx_nil, evsx_cons, evT, evO, evOT, Env.get, bf_one, bf1, isi_str, isi_tup, isStr, isTupD, asD, truD, cmpD, cmpOp, eqE, nilEq, solid, endD, slOf, dOf, toInt, seqOf, seqE, seqS, seqJ, setTg, setTgs, List.mapM_cons, List.mapM_nil, Option.bind, Option.map, shS]
    rw [exx_for, ej, M.pu_bd, e3]
    rfl
  have so := srt_mnd (g := lch) ss
  have ek : ((lmnd ss).map dT).map (·.1) = (lmnd ss).map shS := by
    rw [List.map_map]
    rfl
  rw [sqP t2, sqP t3]
  have bl : bfD .list [.co (.dct ((lmnd ss).map dT))] = some (.list ((lmnd ss).map shS)) := by
    show some (PyData.list (((lmnd ss).map dT).map (·.1))) = _
    rw [ek]
  have eb : ev ⟨callF wd 100 progD f, wd⟩ (.bf .list [(.v 1)]) [.fz (shS ss), .oc (.dct ((lmnd ss).map dT)), a, b, c, d] = .pu (.d (.list ((lmnd ss).map shS))) := by
    rw [evx_bf]
    show M.ofO ((bfD .list [.co (.dct ((lmnd ss).map dT))]).map Vl.d) = _
    rw [bl]
    rfl
  have so2 : srtOk ((lmnd ss).map shS) = true := so
  have ez : ev ⟨callF wd 100 progD f, wd⟩ (.u1 .srt (.bf .list [(.v 1)])) [.fz (shS ss), .oc (.dct ((lmnd ss).map dT)), a, b, c, d] = .pu (.d (.list (isortD ((lmnd ss).map shS)))) := by
    rw [evx_u1, eb, M.pu_bd]
    simp [u1D, srtD, so2, ofO_some]
  have er : ev ⟨callF wd 100 progD f, wd⟩ (.bf .tuple [(.u1 .srt (.bf .list [(.v 1)]))]) [.fz (shS ss), .oc (.dct ((lmnd ss).map dT)), a, b, c, d] = .pu (.d (.tuple (isortD ((lmnd ss).map shS)))) := by
    rw [evx_bf, evsx_cons, ez, M.pu_bd, evsx_nil, M.pu_bd, M.pu_bd]
    simp [ofO_some, M.pu_bd, exsx_nil, exsx_cons, exx_asg, exx_par, exx_ret, exx_retN, exx_iff, exx_for, exx_whl, exx_raise, exx_gput, evx_c, evx_v, evx_bin, evx_cmp, evx_chain, evx_and, evx_or, evx_not, evx_tup, evx_lst, evx_ix, evx_sl, evx_bf, evx_call, evx_gix, evx_ite, evsx_nil, evsx_cons, evT, evO, evOT, Env.get, bf_one, bf1, isi_str, isi_tup, isStr, isTupD, asD, truD, cmpD, cmpOp, eqE, nilEq, solid, endD, slOf, dOf, toInt, seqOf, seqE, seqS, seqJ, setTg, setTgs, List.mapM_cons, List.mapM_nil, Option.bind, Option.map, tupleD]
  rw [exsx_cons, exx_ret, er]
  rfl
end Kk28
end
section
set_option Elab.async false
set_option linter.all false
set_option maxRecDepth 1000000
set_option maxHeartbeats 8000000
namespace Kk28
open PySem PySem.Spec L2 PD

/-! ### setups, by their scripts -/
theorem words_sc {x : D} (h : wordsB 0 6 steps x = true) : ∃ s, x = sS s ∧ okS s := by
  cases x with
  | tuple xs =>
    simp only [wordsB, Bool.and_eq_true, decide_eq_true_eq, List.all_eq_true] at h
    obtain ⟨⟨_, h2⟩, h3⟩ := h
    have key : ∀ xs : List D, (∀ x ∈ xs, wordB x steps = true) → ∃ s : Sc, xs = s.map .str ∧ ∀ w ∈ s, w ∈ steps := fun xs => by
      induction xs with
      | nil => exact fun _ => ⟨[], rfl, by simp⟩
      | cons x xs ih =>
        intro h
        obtain ⟨s, rfl, h2⟩ := ih fun y hy => h y (by simp [hy])
        have hx := h x (by simp)
        cases x with
        | str w =>
          simp only [wordB, decide_eq_true_eq] at hx
          exact ⟨w :: s, rfl, fun v hv => by
            rcases List.mem_cons.mp hv with rfl | hv
            · exact hx
            · exact h2 v hv⟩
        | _ => simp [wordB] at hx
    obtain ⟨s, rfl, hs⟩ := key xs h3
    exact ⟨s, rfl, by rw [List.length_map] at h2; omega, hs⟩
  | _ => simp [wordsB] at h
theorem sc_words {s : Sc} (h : okS s) : wordsB 0 6 steps (sS s) = true := by
  have hl := h.1
  simp only [sS, wordsB, Bool.and_eq_true, decide_eq_true_eq, List.all_eq_true, List.length_map]
  refine ⟨⟨by omega, by omega⟩, fun x hx => ?_⟩
  obtain ⟨w, hw, rfl⟩ := List.mem_map.mp hx
  simpa [wordB] using h.2 w hw
structure okH (ss : List Sc) : Prop where
  ln : ss.length = 4
  ok : ∀ s ∈ ss, okS s
theorem shell_ok {ss : List Sc} (h : okH ss) : shellF (shS ss) = none := by
  have hl := h.ln
  have b : bad (wordsB 0 6 steps) 0 (ss.map sS) = none := bad_all fun x hx => by
    obtain ⟨s, hs, rfl⟩ := List.mem_map.mp hx
    exact sc_words (h.ok s hs)
  simp [shellF, shS, hl, b]
theorem bad_none {p : D → Bool} : ∀ {xs : List D} {k : Nat}, bad p k xs = none → ∀ x ∈ xs, p x = true
  | [], _, _, _, hx => by simp at hx
  | y :: ys, k, h, x, hx => by
    cases hp : p y with
    | false => simp [bad, hp] at h
    | true =>
      simp only [bad, hp, if_true] at h
      rcases List.mem_cons.mp hx with rfl | hx
      · exact hp
      · exact bad_none h x hx
theorem setup_inv {d : D} (h : setupF d = none) : ∃ ks r ss, d = .tuple [ks, r, shS ss] ∧ okH ss ∧ kindsF ks = none ∧ rulesB r = true := by
  unfold setupF at h
  split at h
  · rename_i k r s
    split at h
    · cases h
    · rename_i hk
      split at h
      · rename_i hr
        unfold shellF at h
        split at h
        · rename_i xs
          split at h
          · rename_i hl
            split at h
            · rename_i hb
              have key : ∀ xs : List D, (∀ x ∈ xs, wordsB 0 6 steps x = true) → ∃ ss : List Sc, xs = ss.map sS ∧ ∀ s ∈ ss, okS s := fun xs => by
                induction xs with
                | nil => exact fun _ => ⟨[], rfl, by simp⟩
                | cons x xs ih =>
                  intro h
                  obtain ⟨ss, rfl, h2⟩ := ih fun y hy => h y (by simp [hy])
                  obtain ⟨s, rfl, ok⟩ := words_sc (h x (by simp))
                  exact ⟨s :: ss, rfl, fun v hv => by
                    rcases List.mem_cons.mp hv with rfl | hv
                    · exact ok
                    · exact h2 v hv⟩
              obtain ⟨ss, rfl, ok⟩ := key xs (bad_none hb)
              exact ⟨k, r, ss, rfl, ⟨by simpa using hl, ok⟩, hk, hr⟩
            · cases h
          · cases h
        · cases h
      · cases h
  · cases h
theorem setup_mk {ks r : D} {ss : List Sc} (h : okH ss) (hk : kindsF ks = none) (hr : rulesB r = true) : setupF (.tuple [ks, r, shS ss]) = none := by
  have hs := shell_ok h
  simp [setupF, hk, hr, hs]
/-! ### the changed shells are shells -/
theorem del_ok {s : Sc} (h : okS s) (k : Nat) : okS (del s k) := by
  have hl := h.1
  refine ⟨by unfold del; simp; omega, fun w hw => ?_⟩
  unfold del at hw
  rcases List.mem_append.mp hw with hw | hw
  · exact h.2 w (List.mem_of_mem_take hw)
  · exact h.2 w (List.mem_of_mem_drop hw)
theorem swp_ok {s : Sc} (h : okS s) (k : Nat) : okS (swp s k) := by
  have hl := h.1
  refine ⟨by unfold swp; simp; omega, fun w hw => ?_⟩
  unfold swp at hw
  simp only [List.mem_append, List.mem_reverse] at hw
  rcases hw with (hw | hw) | hw
  · exact h.2 w (List.mem_of_mem_take hw)
  · exact h.2 w (List.mem_of_mem_drop (List.mem_of_mem_take hw))
  · exact h.2 w (List.mem_of_mem_drop hw)
theorem lch_ok {s c : Sc} (h : okS s) (hc : c ∈ lch s) : okS c ∧ c ≠ s := by
  simp only [lch, List.mem_flatMap, List.mem_range, List.mem_cons] at hc
  obtain ⟨j, hj, rfl | hc⟩ := hc
  · refine ⟨del_ok h j, fun z => ?_⟩
    have := congrArg List.length z
    unfold del at this
    simp at this
    omega
  · split at hc
    · rename_i hd
      have hc := List.mem_singleton.mp hc
      subst hc
      refine ⟨swp_ok h j, ?_⟩
      simpa [dif] using hd
    · cases hc
theorem withK_ok {ss : List Sc} (h : okH ss) {k : Nat} {s c : Sc} (hk : ss[k]? = some s) (hc : okS c) (ne : c ≠ s) : okH (withK ss k c) ∧ withK ss k c ≠ ss := by
  have hk4 := (List.getElem?_eq_some_iff.mp hk).1
  have hl := h.ln
  refine ⟨⟨by unfold withK; simp; omega, fun x hx => ?_⟩, fun z => ?_⟩
  · unfold withK at hx
    simp only [List.mem_append, List.mem_singleton] at hx
    rcases hx with (hx | rfl) | hx
    · exact h.ok x (List.mem_of_mem_take hx)
    · exact hc
    · exact h.ok x (List.mem_of_mem_drop hx)
  · have e : (withK ss k c)[k]? = some c := by
      unfold withK
      rw [List.append_assoc, List.getElem?_append_right (by simp; omega)]
      have : k - (ss.take k).length = 0 := by simp; omega
      rw [this]
      rfl
    rw [z, hk] at e
    exact ne (Option.some.inj e).symm
theorem lmnd_ok {ss : List Sc} (h : okH ss) {x : List Sc} (hx : x ∈ lmnd ss) : okH x ∧ x ≠ ss := by
  rcases puts_mem.mp hx with hx | hx
  · exact absurd hx (by simp)
  · obtain ⟨j, s, c, h1, h2, rfl⟩ := allF_mem hx
    obtain ⟨o1, o2⟩ := lch_ok (h.ok s (List.mem_of_getElem? h1)) h2
    rw [Nat.zero_add]
    exact withK_ok h h1 o1 o2
theorem lch_len {s : Sc} (h : okS s) : (lch s).length ≤ 12 := by
  have key : ∀ js : List Nat, (lchF s js).length ≤ 2 * js.length := fun js => by
    induction js with
    | nil => simp [lchF]
    | cons j js ih =>
      have e3 : lchF s (j :: js) = (del s j :: (if dif s j = true then [swp s j] else [])) ++ lchF s js := rfl
      have : (del s j :: (if dif s j = true then [swp s j] else [])).length ≤ 2 := by split <;> simp
      rw [e3, List.length_append, List.length_cons (as := js)]
      omega
  have h1 := key (List.range s.length)
  have h2 := h.1
  rw [List.length_range] at h1
  have e : lch s = lchF s (List.range s.length) := rfl
  rw [e]
  omega
theorem lmnd_len {ss : List Sc} (h : okH ss) : (lmnd ss).length ≤ 48 := by
  have h1 := puts_len (allF lch ss 0 ss) []
  have key : ∀ (r : List Sc) (k : Nat), (∀ s ∈ r, okS s) → (allF lch ss k r).length ≤ 12 * r.length := fun r => by
    induction r with
    | nil => simp [allF]
    | cons s r ih =>
      intro k ok
      have h1 := ih (k + 1) fun x hx => ok x (by simp [hx])
      have h2 := lch_len (ok s (by simp))
      simp only [allF, List.length_append, List.length_map, List.length_cons]
      omega
  have h2 := key ss 0 h.ok
  have h3 := h.ln
  unfold lmnd
  simp only [List.length_nil] at h1
  omega
/-! ### what is shown -/
theorem nr_step : ∀ w ∈ steps, Nr 0 20 (.str w) := by
  have key : steps.all (fun x => PyData.strOk (PyData.str x).shown && decide ((PyData.str x).shown.length ≤ 20)) = true := by decide +kernel
  intro x hx
  have := List.all_eq_true.mp key x hx
  simp only [Bool.and_eq_true, decide_eq_true_eq] at this
  exact ⟨by simp only [PyData.showable], this.1, by simp [PyData.depth], this.2⟩
theorem nr_sS {s : Sc} (h : okS s) : Nr 1 200 (sS s) := by
  refine (nr_tup (dep := 0) (L := 20) (xs := s.map .str) fun x hx => ?_).mono (by omega) ?_
  · obtain ⟨w, hw, rfl⟩ := List.mem_map.mp hx
    exact nr_step w (h.2 w hw)
  · have := h.1
    simp only [List.length_map]
    omega
theorem nr_shS {ss : List Sc} (h : okH ss) : Nr 2 1000 (shS ss) := by
  refine (nr_tup (dep := 1) (L := 200) (xs := ss.map sS) fun x hx => ?_).mono (by omega) ?_
  · obtain ⟨w, hw, rfl⟩ := List.mem_map.mp hx
    exact nr_sS (h.ok w hw)
  · have := h.ln
    simp only [List.length_map]
    omega
theorem nr_due {ss : List Sc} (h : okH ss) : Nr 64 16000000 (.tuple (isortD ((lmnd ss).map shS))) := by
  refine (nr_tup (dep := 2) (L := 1000) fun x hx => ?_).mono (by omega) ?_
  · obtain ⟨w, hw, rfl⟩ := List.mem_map.mp (isort_mem.mp hx)
    exact nr_shS (lmnd_ok h hw).1
  · have := lmnd_len h
    rw [isort_len, List.length_map]
    omega
theorem nr_kinds {d : D} (h : kindsF d = none) : Nr 2 1000 d := by
  have na : ∀ w ∈ acts, Nr 0 20 (.str w) := by
    have key : acts.all (fun x => PyData.strOk (PyData.str x).shown && decide ((PyData.str x).shown.length ≤ 20)) = true := by decide +kernel
    intro x hx
    have := List.all_eq_true.mp key x hx
    simp only [Bool.and_eq_true, decide_eq_true_eq] at this
    exact ⟨by simp only [PyData.showable], this.1, by simp [PyData.depth], this.2⟩
  unfold kindsF at h
  split at h
  · rename_i xs
    split at h
    · rename_i hl
      split at h
      · rename_i hb
        refine (nr_tup (dep := 1) (L := 200) (xs := xs) fun x hx => ?_).mono (by omega) (by omega)
        have hw := bad_none hb x hx
        cases x with
        | tuple ys =>
          simp only [wordsB, Bool.and_eq_true, decide_eq_true_eq, List.all_eq_true] at hw
          refine (nr_tup (dep := 0) (L := 20) (xs := ys) fun y hy => ?_).mono (by omega) (by omega)
          have hz := hw.2 y hy
          cases y with
          | str w =>
            simp only [wordB, decide_eq_true_eq] at hz
            exact na w hz
          | _ => simp [wordB] at hz
        | _ => simp [wordsB] at hw
      · cases h
    · cases h
  · cases h
theorem nr_rules {d : D} (h : rulesB d = true) : Nr 1 200 d := by
  have nw : ∀ w ∈ reads ++ lets, Nr 0 20 (.str w) := by
    have key : (reads ++ lets).all (fun x => PyData.strOk (PyData.str x).shown && decide ((PyData.str x).shown.length ≤ 20)) = true := by decide +kernel
    intro x hx
    have := List.all_eq_true.mp key x hx
    simp only [Bool.and_eq_true, decide_eq_true_eq] at this
    exact ⟨by simp only [PyData.showable], this.1, by simp [PyData.depth], this.2⟩
  have wd1 : ∀ (x : D) (ws : List Str), (∀ w ∈ ws, w ∈ reads ++ lets) → wordB x ws = true → Nr 0 20 x := fun x ws hs hw => by
    cases x with
    | str w =>
      simp only [wordB, decide_eq_true_eq] at hw
      exact nw w (hs w hw)
    | _ => simp [wordB] at hw
  unfold rulesB at h
  split at h
  · rename_i a b c
    simp only [Bool.and_eq_true] at h
    have na := wd1 a reads (fun w hw => by simp [hw]) h.1
    have nb := wd1 b lets (fun w hw => by simp [hw]) h.2.1
    have nc := wd1 c lets (fun w hw => by simp [hw]) h.2.2
    exact (nr_tup (dep := 0) (L := 20) (xs := [a, b, c]) fun x hx => by
      simp only [List.mem_cons, List.not_mem_nil, or_false] at hx
      rcases hx with rfl | rfl | rfl <;> assumption).mono (by omega) (by simp)
  · cases h
theorem nr_setup {ks r : D} {ss : List Sc} (h : okH ss) (hk : kindsF ks = none) (hr : rulesB r = true) : Nr 64 16000000 (.tuple [ks, r, shS ss]) := by
  have a := (nr_kinds hk).mono (dep' := 2) (L' := 1000) (by omega) (by omega)
  have b := (nr_rules hr).mono (dep' := 2) (L' := 1000) (by omega) (by omega)
  have c := nr_shS h
  exact (nr_tup (dep := 2) (L := 1000) (xs := [ks, r, shS ss]) fun x hx => by
    simp only [List.mem_cons, List.not_mem_nil, or_false] at hx
    rcases hx with rfl | rfl | rfl <;> assumption).mono (by omega) (by simp)
/-! ### refusals -/
theorem mends_er (f : Nat) {d p : D} (e : setupF d = some p) : callF wd 100 progD (f + 6) 11 [.d d] = M.raise "BadSetup" p := by
  rw [call1 q11, mends_eq]
  have nd := need_er f _ _ e
  have e1 : exS ⟨callF wd 100 progD (f + 5), wd⟩ 100 (.asg (.n 1) (.ix (.call 9 [(.v 0)]) (.c (.int (2))))) [.fz d, .un, .un, .un, .un, .un] = M.raise "BadSetup" p := by
    simp [ofO_some, M.pu_bd, exsx_nil, exsx_cons, exx_asg, exx_par, exx_ret, exx_retN, exx_iff, exx_for, exx_whl, exx_raise, exx_gput, evx_c, evx_v, evx_bin, evx_cmp, evx_chain, evx_and, evx_or, evx_not, evx_tup, evx_lst, evx_ix, evx_sl, evx_bf, evx_call, evx_gix, evx_ite, evsx_nil, evsx_cons, evT, evO, evOT, Env.get, bf_one, bf1, isi_str, isi_tup, isStr, isTupD, asD, truD, cmpD, cmpOp, eqE, nilEq, solid, endD, slOf, dOf, toInt, seqOf, seqE, seqS, seqJ, setTg, setTgs, List.mapM_cons, List.mapM_nil, Option.bind, Option.map, nd, raise_bd]
  show ((exSs ⟨callF wd 100 progD (f + 5), wd⟩ 100 _ [.fz d, .un, .un, .un, .un, .un]).bd endD) = _
  rw [exsx_cons, e1, raise_bd, raise_bd]
theorem refused (f : Nat) {d p : D} (e : setupF d = some p) : callF wd 100 progD (f + 7) 18 [.d d] = .pu p := by
  rw [call1 q18]
  have h := mends_er f e
  have e1 : ev ⟨callF wd 100 progD (f + 6), wd⟩ (.call 11 [(.v 0)]) [.fz d, .un] = M.raise "BadSetup" p := by
    simp [ofO_some, M.pu_bd, exsx_nil, exsx_cons, exx_asg, exx_par, exx_ret, exx_retN, exx_iff, exx_for, exx_whl, exx_raise, exx_gput, evx_c, evx_v, evx_bin, evx_cmp, evx_chain, evx_and, evx_or, evx_not, evx_tup, evx_lst, evx_ix, evx_sl, evx_bf, evx_call, evx_gix, evx_ite, evsx_nil, evsx_cons, evT, evO, evOT, Env.get, bf_one, bf1, isi_str, isi_tup, isStr, isTupD, asD, truD, cmpD, cmpOp, eqE, nilEq, solid, endD, slOf, dOf, toInt, seqOf, seqE, seqS, seqJ, setTg, setTgs, List.mapM_cons, List.mapM_nil, Option.bind, Option.map, h, raise_bd]
  show ((exSs ⟨callF wd 100 progD (f + 6), wd⟩ 100 l__law_refused [.fz d, .un]).bd endD) = _
  rw [l__law_refused, exsx_cons, exx_tryE, e1]
  rfl
end Kk28
end
section
set_option Elab.async false
set_option linter.all false
set_option maxRecDepth 1000000
set_option maxHeartbeats 8000000
namespace Kk28
open PySem PySem.Spec L2 PD

abbrev FF : Fns := ⟨callF wd 100 progD 30, wd⟩
def STEP7 : D := .tuple [(.str "group"), (.str "give"), (.str "go"), (.str "wait"), (.str "listen"), (.str "take"), (.str "plain")]
def B1 : Sm := (.asg (.n 5) (.call 16 [(.v 1), (.c (.int (3))), (.c (.int (5))), (.c (.int (6)))]))
def B2a : Sm := (.asg (.n 8) (.call 14 [(.v 1), (.c STEP7)]))
def B2b : Sm := (.asg (.n 5) (.bin .Add (.sl (.v 5) none (some (.c (.int (2))))) (.tup [(.bin .Add (.tup [(.ix (.ix (.v 5) (.c (.int (2)))) (.c (.int (0)))), (.bin .Mult (.tup [(.v 8)]) (.call 13 [(.v 1), (.c (.int (7)))]))]) (.sl (.ix (.v 5) (.c (.int (2)))) (some (.c (.int (2)))) none))])))
def B2 : Sm := (.iff (.cmp .Eq (.call 13 [(.v 1), (.c (.int (3)))]) (.c (.int (0)))) [B2a, B2b] [])
def B3 : Sm := (.par [4, 9] [(.call 17 [(.ix (.v 5) (.c (.int (2))))]), (.bf .repr [(.v 5)])])
def B4 : Sm := (.iff (.or (.cmp .NotEq (.bf .repr [(.call 11 [(.v 5)])]) (.bf .repr [(.v 4)])) (.or (.cmp .NotEq (.bf .repr [(.call 11 [(.v 5)])]) (.bf .repr [(.v 4)])) (.cmp .NotEq (.bf .repr [(.v 5)]) (.v 9)))) [(.ret (.c (.bool false)))] [])
def ODT : E := (.cmp .IsNot (.call 8 [(.bin .Add (.sl (.v 5) none (some (.c (.int (2))))) (.tup [(.v 10)]))]) (.c (.bool true)))
def B5 : Sm := (.asg (.n 6) (.lc (.n 10) (.e (.v 4)) (some ODT) (.v 10) [10]))
def B6 : Sm := (.iff (.or (.cmp .In (.ix (.v 5) (.c (.int (2)))) (.v 4)) (.cmp .NotEq (.v 6) (.lst []))) [(.ret (.c (.bool false)))] [])
def B7 : Sm := (.asg (.n 7) (.lst [(.call 18 [(.sl (.v 5) none (some (.c (.int (2)))))]), (.call 18 [(.tup [(.ix (.v 5) (.c (.int (0)))), (.c (.str "rules")), (.ix (.v 5) (.c (.int (2))))])]), (.call 18 [(.bf .list [(.v 5)])])]))
def B8 : Sm := (.iff (.cmp .NotEq (.v 7) (.lst [(.tup []), (.tup [(.c (.str "rules"))]), (.tup [])])) [(.ret (.c (.bool false)))] [])
def BODY : List Sm := [B1, B2, B3, B4, B5, B6, B7, B8]
def RG : E := (.bin .Add (.c (.int (5))) (.bf .min2 [(.c (.int (20))), (.bf .len [(.v 0)])]))
def REST : List Sm := l_law.tail
theorem law_eq : l_law = .for_ (.n 2) (.rng1 RG) BODY :: REST := rfl
/-! ### one of a tuple -/
theorem itD_tup {xs : List D} {r : Int} (h0 : 0 ≤ r) (h1 : r < xs.length) : ∃ x, x ∈ xs ∧ itD (.tuple xs) (.int r) = some x := by
  have hn : r.toNat < xs.length := by omega
  refine ⟨xs[r.toNat], List.getElem_mem hn, ?_⟩
  simp [itD, atI, ixN, h0, h1, hn]
theorem of_tup (f : Nat) {xs : List D} (h0 : xs ≠ []) (h1 : xs.length ≤ 1000) {k : Int} (hk : k < 1000000) {g : Gen} (hg : G k g) : ∃ x g', callF wd 100 progD (f + 2) 14 [.gn, .d (.tuple xs)] g = .ok x g' ∧ x ∈ xs ∧ G (k + 1) g' := by
  have hl : 0 < xs.length := List.length_pos_iff.mpr h0
  obtain ⟨r, g', e, r0, r1, hg'⟩ := dw.drawW f xs.length (by omega) (by omega) hk hg
  obtain ⟨x, hx, ex⟩ := itD_tup r0 r1
  refine ⟨x, g', ?_, hx, hg'⟩
  rw [callF_tx dw.ho]
  simp [L_of, ofO_some, M.pu_bd, exsx_nil, exsx_cons, exx_asg, exx_par, exx_ret, exx_retN, exx_iff, exx_for, exx_whl, exx_raise, exx_gput, evx_c, evx_v, evx_bin, evx_cmp, evx_chain, evx_and, evx_or, evx_not, evx_tup, evx_lst, evx_ix, evx_sl, evx_bf, evx_call, evx_gix, evx_ite, evsx_nil, evsx_cons, evT, evO, evOT, Env.get, bf_one, bf1, isi_str, isi_tup, isStr, isTupD, asD, truD, cmpD, cmpOp, eqE, nilEq, solid, endD, slOf, dOf, toInt, seqOf, seqE, seqS, seqJ, setTg, setTgs, List.mapM_cons, List.mapM_nil, Option.bind, Option.map, bd_ap, pu_ap, lenD, e, ixD, ex]
theorem rep1 (x : D) : ∀ n : Nat, (List.replicate n [x]).flatten = List.replicate n x
  | 0 => rfl
  | n + 1 => by rw [List.replicate_succ, List.flatten_cons, rep1 x n, List.replicate_succ]; rfl
/-- a setup is drawn -/
theorem drawn {ns : List Int} {s2 s4 s5 s6 s7 s8 s9 s10 : Sl} {k : Int} (hk : k < 600000) {g : Gen} (hg : G k g) (R : List Sm) : ∃ ks r ss s8' g', exSs FF 100 (B1 :: B2 :: R) [.sc ns, .gn, s2, .un, s4, s5, s6, s7, s8, s9, s10] g = exSs FF 100 R [.sc ns, .gn, s2, .un, s4, .fz (.tuple [ks, r, shS ss]), s6, s7, s8', s9, s10] g' ∧
    okH ss ∧ kindsF ks = none ∧ rulesB r = true ∧ G (k + 200) g' := by
  have z1 := one_s
  have z2 : (2 : Nat) ≤ sizeLine := by rw [sizeLine_eq]; omega
  obtain ⟨d, g1, e1, v1, hg1⟩ := dw.setupW 26 (by omega) hg
  obtain ⟨ks, r, ss, rfl, ok, hk1, hr1⟩ := setup_inv v1
  have t1 : exS FF 100 B1 [.sc ns, .gn, s2, .un, s4, s5, s6, s7, s8, s9, s10] g = .ok (.nx [.sc ns, .gn, s2, .un, s4, .fz (.tuple [ks, r, shS ss]), s6, s7, s8, s9, s10]) g1 := by
    simp [B1, ofO_some, M.pu_bd, exsx_nil, exsx_cons, exx_asg, exx_par, exx_ret, exx_retN, exx_iff, exx_for, exx_whl, exx_raise, exx_gput, evx_c, evx_v, evx_bin, evx_cmp, evx_chain, evx_and, evx_or, evx_not, evx_tup, evx_lst, evx_ix, evx_sl, evx_bf, evx_call, evx_gix, evx_ite, evsx_nil, evsx_cons, evT, evO, evOT, Env.get, bf_one, bf1, isi_str, isi_tup, isStr, isTupD, asD, truD, cmpD, cmpOp, eqE, nilEq, solid, endD, slOf, dOf, toInt, seqOf, seqE, seqS, seqJ, setTg, setTgs, List.mapM_cons, List.mapM_nil, Option.bind, Option.map, bd_ap, pu_ap, e1]
  obtain ⟨x, g2, e2, x0, x1, hg2⟩ := dw.drawW 29 3 (by omega) (by omega) (k := k + 100) (by omega) hg1
  have sh0 : ∀ i : Int, SeqAt.shaped (.int i) = true := fun i => by simp [SeqAt.shaped, PyData.canLay0, PyData.depth]
  by_cases hx : x = 0
  · subst hx
    obtain ⟨w, g3, e3, hw, hg3⟩ := of_tup 28 (xs := [(.str "group"), (.str "give"), (.str "go"), (.str "wait"), (.str "listen"), (.str "take"), (.str "plain")]) (by simp) (by simp) (k := k + 100 + 1) (by omega) hg2
    obtain ⟨n, g4, e4, n0, n1, hg4⟩ := dw.drawW 29 7 (by omega) (by omega) (k := k + 100 + 1 + 1) (by omega) hg3
    obtain ⟨wo, rfl, hwo⟩ : ∃ wo, w = .str wo ∧ wo ∈ steps := by
      simp only [List.mem_cons, List.not_mem_nil, or_false] at hw
      rcases hw with rfl | rfl | rfl | rfl | rfl | rfl | rfl <;> exact ⟨_, rfl, by decide⟩
    match ss, ok with
    | [a, b, c, dd], ok =>
      have okn : okH [a, List.replicate n.toNat wo, c, dd] := ⟨rfl, fun s hs => by
        simp only [List.mem_cons, List.not_mem_nil, or_false] at hs
        rcases hs with rfl | rfl | rfl | rfl
        · exact ok.ok _ (by simp)
        · exact ⟨by simp; omega, fun v hv => by rw [List.eq_of_mem_replicate hv]; exact hwo⟩
        · exact ok.ok _ (by simp)
        · exact ok.ok _ (by simp)⟩
      refine ⟨ks, r, [a, List.replicate n.toNat wo, c, dd], .fz (.str wo), g4, ?_, okn, hk1, hr1, ⟨hg4.gl, hg4.t0, by have := hg4.tk; omega⟩⟩
      rw [sq t1]
      have tt : evT FF (.cmp .Eq (.call 13 [(.v 1), (.c (.int (3)))]) (.c (.int (0)))) [.sc ns, .gn, s2, .un, s4, .fz (.tuple [ks, r, shS [a, b, c, dd]]), s6, s7, s8, s9, s10] g1 = .ok true g2 := by
        simp [ofO_some, M.pu_bd, exsx_nil, exsx_cons, exx_asg, exx_par, exx_ret, exx_retN, exx_iff, exx_for, exx_whl, exx_raise, exx_gput, evx_c, evx_v, evx_bin, evx_cmp, evx_chain, evx_and, evx_or, evx_not, evx_tup, evx_lst, evx_ix, evx_sl, evx_bf, evx_call, evx_gix, evx_ite, evsx_nil, evsx_cons, evT, evO, evOT, Env.get, bf_one, bf1, isi_str, isi_tup, isStr, isTupD, asD, truD, cmpD, cmpOp, eqE, nilEq, solid, endD, slOf, dOf, toInt, seqOf, seqE, seqS, seqJ, setTg, setTgs, List.mapM_cons, List.mapM_nil, Option.bind, Option.map, bd_ap, pu_ap, e2, eqD, sh0, PyData.eqv]
      have ta : exS FF 100 B2a [.sc ns, .gn, s2, .un, s4, .fz (.tuple [ks, r, shS [a, b, c, dd]]), s6, s7, s8, s9, s10] g2 = .ok (.nx [.sc ns, .gn, s2, .un, s4, .fz (.tuple [ks, r, shS [a, b, c, dd]]), s6, s7, .fz (.str wo), s9, s10]) g3 := by
        simp [B2a, STEP7, ofO_some, M.pu_bd, exsx_nil, exsx_cons, exx_asg, exx_par, exx_ret, exx_retN, exx_iff, exx_for, exx_whl, exx_raise, exx_gput, evx_c, evx_v, evx_bin, evx_cmp, evx_chain, evx_and, evx_or, evx_not, evx_tup, evx_lst, evx_ix, evx_sl, evx_bf, evx_call, evx_gix, evx_ite, evsx_nil, evsx_cons, evT, evO, evOT, Env.get, bf_one, bf1, isi_str, isi_tup, isStr, isTupD, asD, truD, cmpD, cmpOp, eqE, nilEq, solid, endD, slOf, dOf, toInt, seqOf, seqE, seqS, seqJ, setTg, setTgs, List.mapM_cons, List.mapM_nil, Option.bind, Option.map, bd_ap, pu_ap, e3]
      have c1 : cutD [ks, r, shS [a, b, c, dd]] none (some 2) = [ks, r] := rfl
      have c2 : cutD [sS a, sS b, sS c, sS dd] (some 2) none = [sS c, sS dd] := rfl
      have i2 : atI [ks, r, shS [a, b, c, dd]] 2 = some (.tuple [sS a, sS b, sS c, sS dd]) := rfl
      have i0 : atI [sS a, sS b, sS c, sS dd] 0 = some (sS a) := rfl
      have mu : mulD (.tuple [.str wo]) (.int n) = some (sS (List.replicate n.toNat wo)) := by
        have cc : -1000 ≤ n ∧ n ≤ 1000 ∧ [PyData.str wo].length ≤ 1000 := ⟨by omega, by omega, by simp⟩
        show (if -1000 ≤ n ∧ n ≤ 1000 ∧ [PyData.str wo].length ≤ 1000 then some (PyData.tuple (List.replicate n.toNat [PyData.str wo]).flatten) else none) = _
        rw [if_pos cc, rep1]
        simp [sS]
      have a1 := addD_tup (a := [sS a, sS (List.replicate n.toNat wo)]) (b := [sS c, sS dd]) (by rw [sizeLine_eq]; simp)
      have a2 := addD_tup (a := [ks, r]) (b := [.tuple ([sS a, sS (List.replicate n.toNat wo)] ++ [sS c, sS dd])]) (by rw [sizeLine_eq]; simp)
      have tb : exS FF 100 B2b [.sc ns, .gn, s2, .un, s4, .fz (.tuple [ks, r, shS [a, b, c, dd]]), s6, s7, .fz (.str wo), s9, s10] g3 = .ok (.nx [.sc ns, .gn, s2, .un, s4, .fz (.tuple [ks, r, shS [a, List.replicate n.toNat wo, c, dd]]), s6, s7, .fz (.str wo), s9, s10]) g4 := by
        simp only [List.cons_append, List.nil_append] at a1 a2
        simp [B2b, ofO_some, M.pu_bd, exsx_nil, exsx_cons, exx_asg, exx_par, exx_ret, exx_retN, exx_iff, exx_for, exx_whl, exx_raise, exx_gput, evx_c, evx_v, evx_bin, evx_cmp, evx_chain, evx_and, evx_or, evx_not, evx_tup, evx_lst, evx_ix, evx_sl, evx_bf, evx_call, evx_gix, evx_ite, evsx_nil, evsx_cons, evT, evO, evOT, Env.get, bf_one, bf1, isi_str, isi_tup, isStr, isTupD, asD, truD, cmpD, cmpOp, eqE, nilEq, solid, endD, slOf, dOf, toInt, seqOf, seqE, seqS, seqJ, setTg, setTgs, List.mapM_cons, List.mapM_nil, Option.bind, Option.map, bd_ap, pu_ap, slD_tup, c1, c2, ixD, itD, i2, i0, binD, opD, e4, mu, a1, a2, z1, z2]
        rfl
      have tq : exS FF 100 B2 [.sc ns, .gn, s2, .un, s4, .fz (.tuple [ks, r, shS [a, b, c, dd]]), s6, s7, s8, s9, s10] g1 = .ok (.nx [.sc ns, .gn, s2, .un, s4, .fz (.tuple [ks, r, shS [a, List.replicate n.toNat wo, c, dd]]), s6, s7, .fz (.str wo), s9, s10]) g4 := by
        rw [B2, exx_iff, bd_ap, tt]
        show exSs FF 100 [B2a, B2b] _ g2 = _
        rw [sq ta, sq tb, exsx_nil]
        rfl
      rw [sq tq]
  · refine ⟨ks, r, ss, s8, g2, ?_, ok, hk1, hr1, ⟨hg2.gl, hg2.t0, by have := hg2.tk; omega⟩⟩
    rw [sq t1]
    have tt : evT FF (.cmp .Eq (.call 13 [(.v 1), (.c (.int (3)))]) (.c (.int (0)))) [.sc ns, .gn, s2, .un, s4, .fz (.tuple [ks, r, shS ss]), s6, s7, s8, s9, s10] g1 = .ok false g2 := by
      simp [ofO_some, M.pu_bd, exsx_nil, exsx_cons, exx_asg, exx_par, exx_ret, exx_retN, exx_iff, exx_for, exx_whl, exx_raise, exx_gput, evx_c, evx_v, evx_bin, evx_cmp, evx_chain, evx_and, evx_or, evx_not, evx_tup, evx_lst, evx_ix, evx_sl, evx_bf, evx_call, evx_gix, evx_ite, evsx_nil, evsx_cons, evT, evO, evOT, Env.get, bf_one, bf1, isi_str, isi_tup, isStr, isTupD, asD, truD, cmpD, cmpOp, eqE, nilEq, solid, endD, slOf, dOf, toInt, seqOf, seqE, seqS, seqJ, setTg, setTgs, List.mapM_cons, List.mapM_nil, Option.bind, Option.map, bd_ap, pu_ap, e2, eqD, sh0, PyData.eqv, hx]
    have t2 : exS FF 100 B2 [.sc ns, .gn, s2, .un, s4, .fz (.tuple [ks, r, shS ss]), s6, s7, s8, s9, s10] g1 = .ok (.nx [.sc ns, .gn, s2, .un, s4, .fz (.tuple [ks, r, shS ss]), s6, s7, s8, s9, s10]) g2 := by
      rw [B2, exx_iff, bd_ap, tt]
      rfl
    rw [sq t2]
end Kk28
end
section
set_option Elab.async false
set_option linter.all false
set_option maxRecDepth 1000000
set_option maxHeartbeats 8000000
namespace Kk28
open PySem PySem.Spec L2 PD

theorem rest {ns : List Int} {s2 s4 s5 s6 s7 s8 s9 s10 : Sl} : exSs FF 100 REST [.sc ns, .gn, s2, .un, s4, s5, s6, s7, s8, s9, s10] = .pu (.rt (.bool true)) := by
  kernel_rfl
end Kk28
end
section
set_option Elab.async false
set_option linter.all false
set_option maxRecDepth 1000000
set_option maxHeartbeats 8000000
namespace Kk28
open PySem PySem.Spec L2 PD

def dueD (ss : List Sc) : D := .tuple (isortD ((lmnd ss).map shS))
theorem checked {ns : List Int} {s2 s4 s6 s7 s8 s9 s10 : Sl} {ks r : D} {ss : List Sc} (ok : okH ss) (hk : kindsF ks = none) (hr : rulesB r = true) : ∃ s6' s7' s10', exSs FF 100 [B3, B4, B5, B6, B7, B8] [.sc ns, .gn, s2, .un, s4, .fz (.tuple [ks, r, shS ss]), s6, s7, s8, s9, s10] =
    .pu (.nx [.sc ns, .gn, s2, .un, .fz (dueD ss), .fz (.tuple [ks, r, shS ss]), s6', s7', s8, .fz (.str (PyData.tuple [ks, r, shS ss]).shown), s10']) := by
  have z1 := one_s
  have z2 : (2 : Nat) ≤ sizeLine := by rw [sizeLine_eq]; omega
  have z3 : (3 : Nat) ≤ sizeLine := by rw [sizeLine_eq]; omega
  have vs := setup_mk ok hk hr
  have hl := ok.ln
  have lm : callF wd 100 progD 30 17 [.d (shS ss)] = .pu (dueD ss) := law_mends 29 (by omega) ok.ok
  have pm : callF wd 100 progD 30 11 [.d (.tuple [ks, r, shS ss])] = .pu (dueD ss) := by
    have h := mends 24 vs (by omega) ok.ok
    rw [sort_same] at h
    exact h
  have i2 : atI [ks, r, shS ss] 2 = some (shS ss) := rfl
  have nd : Nr 64 16000000 (dueD ss) := nr_due ok
  have nu := nr_setup ok hk hr
  have rd := nr_repr nd
  have ru := nr_repr nu
  have qd := nr_eq nd
  have qu := nr_eq nu
  -- the two lists are shown
  have t3 : exS FF 100 B3 [.sc ns, .gn, s2, .un, s4, .fz (.tuple [ks, r, shS ss]), s6, s7, s8, s9, s10] = .pu (.nx [.sc ns, .gn, s2, .un, .fz (dueD ss), .fz (.tuple [ks, r, shS ss]), s6, s7, s8, .fz (.str (PyData.tuple [ks, r, shS ss]).shown), s10]) := by
    simp [B3, ofO_some, M.pu_bd, exsx_nil, exsx_cons, exx_asg, exx_par, exx_ret, exx_retN, exx_iff, exx_for, exx_whl, exx_raise, exx_gput, evx_c, evx_v, evx_bin, evx_cmp, evx_chain, evx_and, evx_or, evx_not, evx_tup, evx_lst, evx_ix, evx_sl, evx_bf, evx_call, evx_gix, evx_ite, evsx_nil, evsx_cons, evT, evO, evOT, Env.get, bf_one, bf1, isi_str, isi_tup, isStr, isTupD, asD, truD, cmpD, cmpOp, eqE, nilEq, solid, endD, slOf, dOf, toInt, seqOf, seqE, seqS, seqJ, setTg, setTgs, List.mapM_cons, List.mapM_nil, Option.bind, Option.map, ixD, itD, i2, lm, ru]
  have t4 : exS FF 100 B4 [.sc ns, .gn, s2, .un, .fz (dueD ss), .fz (.tuple [ks, r, shS ss]), s6, s7, s8, .fz (.str (PyData.tuple [ks, r, shS ss]).shown), s10] = .pu (.nx [.sc ns, .gn, s2, .un, .fz (dueD ss), .fz (.tuple [ks, r, shS ss]), s6, s7, s8, .fz (.str (PyData.tuple [ks, r, shS ss]).shown), s10]) := by
    simp [B4, ofO_some, M.pu_bd, exsx_nil, exsx_cons, exx_asg, exx_par, exx_ret, exx_retN, exx_iff, exx_for, exx_whl, exx_raise, exx_gput, evx_c, evx_v, evx_bin, evx_cmp, evx_chain, evx_and, evx_or, evx_not, evx_tup, evx_lst, evx_ix, evx_sl, evx_bf, evx_call, evx_gix, evx_ite, evsx_nil, evsx_cons, evT, evO, evOT, Env.get, bf_one, bf1, isi_str, isi_tup, isStr, isTupD, asD, truD, cmpD, cmpOp, eqE, nilEq, solid, endD, slOf, dOf, toInt, seqOf, seqE, seqS, seqJ, setTg, setTgs, List.mapM_cons, List.mapM_nil, Option.bind, Option.map, pm, rd, ru, qd, qu]
  -- each is a setup
  have c2 : cutD [ks, r, shS ss] none (some 2) = [ks, r] := rfl
  have hm : mapB (lcF FF [.sc ns, .gn, s2, .un, .fz (dueD ss), .fz (.tuple [ks, r, shS ss]), s6, s7, s8, .fz (.str (PyData.tuple [ks, r, shS ss]).shown), s10] (.n 10) (some ODT) (.v 10) [10]) (isortD ((lmnd ss).map shS)) = .pu [] := by
    have h := mapB_pu (f := lcF FF [.sc ns, .gn, s2, .un, .fz (dueD ss), .fz (.tuple [ks, r, shS ss]), s6, s7, s8, .fz (.str (PyData.tuple [ks, r, shS ss]).shown), s10] (.n 10) (some ODT) (.v 10) [10]) (h := fun _ => none) (ds := isortD ((lmnd ss).map shS)) fun d hd => by
      obtain ⟨x, hx, rfl⟩ := List.mem_map.mp (isort_mem.mp hd)
      obtain ⟨okx, _⟩ := lmnd_ok ok hx
      have e := is_setup 25 (.tuple [ks, r, shS x])
      rw [setup_mk okx hk hr] at e
      have a2 := addD_tup (a := [ks, r]) (b := [shS x]) (by rw [sizeLine_eq]; simp)
      simp only [List.cons_append, List.nil_append] at a2
      simp [lcF, wipeE, ODT, ofO_some, M.pu_bd, exsx_nil, exsx_cons, exx_asg, exx_par, exx_ret, exx_retN, exx_iff, exx_for, exx_whl, exx_raise, exx_gput, evx_c, evx_v, evx_bin, evx_cmp, evx_chain, evx_and, evx_or, evx_not, evx_tup, evx_lst, evx_ix, evx_sl, evx_bf, evx_call, evx_gix, evx_ite, evsx_nil, evsx_cons, evT, evO, evOT, Env.get, bf_one, bf1, isi_str, isi_tup, isStr, isTupD, asD, truD, cmpD, cmpOp, eqE, nilEq, solid, endD, slOf, dOf, toInt, seqOf, seqE, seqS, seqJ, setTg, setTgs, List.mapM_cons, List.mapM_nil, Option.bind, Option.map, slD_tup, c2, binD, opD, a2, e, isD, z1, calm_pu]
    rw [h]
    congr 1
    have key : ∀ l : List D, l.filterMap (fun _ => (none : Option D)) = [] := fun l => by induction l <;> simp_all
    exact key _
  have el := ev_lc (F := FF) (env := [.sc ns, .gn, s2, .un, .fz (dueD ss), .fz (.tuple [ks, r, shS ss]), s6, s7, s8, .fz (.str (PyData.tuple [ks, r, shS ss]).shown), s10]) (it := .e (.v 4)) (by simp [evI, ofO_some, M.pu_bd, exsx_nil, exsx_cons, exx_asg, exx_par, exx_ret, exx_retN, exx_iff, exx_for, exx_whl, exx_raise, exx_gput, evx_c, evx_v, evx_bin, evx_cmp, evx_chain, evx_and, evx_or, evx_not, evx_tup, evx_lst, evx_ix, evx_sl, evx_bf, evx_call, evx_gix, evx_ite, evsx_nil, evsx_cons, evT, evO, evOT, Env.get, bf_one, bf1, isi_str, isi_tup, isStr, isTupD, asD, truD, cmpD, cmpOp, eqE, nilEq, solid, endD, slOf, dOf, toInt, seqOf, seqE, seqS, seqJ, setTg, setTgs, List.mapM_cons, List.mapM_nil, Option.bind, Option.map, dueD]) hm (Nat.zero_le _)
  have t5 : exS FF 100 B5 [.sc ns, .gn, s2, .un, .fz (dueD ss), .fz (.tuple [ks, r, shS ss]), s6, s7, s8, .fz (.str (PyData.tuple [ks, r, shS ss]).shown), s10] = .pu (.nx [.sc ns, .gn, s2, .un, .fz (dueD ss), .fz (.tuple [ks, r, shS ss]), .fz (.list []), s7, s8, .fz (.str (PyData.tuple [ks, r, shS ss]).shown), s10]) := by
    rw [B5, exx_asg, el]
    rfl
  -- the shell is none of them
  have m6 : memD (shS ss) (dueD ss) = some false := by
    have f0 : isFlat (shS ss) = false := rfl
    have f1 := sh_shS fun s hs => (ok.ok s hs).2
    have f2 : PyData.canLayAll0 (isortD ((lmnd ss).map shS)) = true := by
      have key : ∀ l : List D, (∀ x ∈ l, PyData.canLay0 x = true) → PyData.canLayAll0 l = true := fun l => by
        induction l with
        | nil => simp [PyData.canLayAll0]
        | cons x l ih =>
          intro h
          simp [PyData.canLayAll0, h x (by simp), ih fun y hy => h y (by simp [hy])]
      refine key _ fun x hx => ?_
      obtain ⟨y, hy, rfl⟩ := List.mem_map.mp (isort_mem.mp hx)
      exact (lay_shS fun s hs => ((lmnd_ok ok hy).1.ok s hs).2).1
    have f3 : inD (shS ss) (isortD ((lmnd ss).map shS)) = false := by
      rw [inD_any, List.any_eq_false]
      intro x hx
      obtain ⟨y, hy, rfl⟩ := List.mem_map.mp (isort_mem.mp hx)
      rw [eqv_shS]
      simpa using (lmnd_ok ok hy).2
    unfold dueD memD
    simp [f0, f1, f2, f3]
  have sl0 : SeqAt.shaped (.list []) = true := by decide
  have t6 : exS FF 100 B6 [.sc ns, .gn, s2, .un, .fz (dueD ss), .fz (.tuple [ks, r, shS ss]), .fz (.list []), s7, s8, .fz (.str (PyData.tuple [ks, r, shS ss]).shown), s10] = .pu (.nx [.sc ns, .gn, s2, .un, .fz (dueD ss), .fz (.tuple [ks, r, shS ss]), .fz (.list []), s7, s8, .fz (.str (PyData.tuple [ks, r, shS ss]).shown), s10]) := by
    simp [B6, ofO_some, M.pu_bd, exsx_nil, exsx_cons, exx_asg, exx_par, exx_ret, exx_retN, exx_iff, exx_for, exx_whl, exx_raise, exx_gput, evx_c, evx_v, evx_bin, evx_cmp, evx_chain, evx_and, evx_or, evx_not, evx_tup, evx_lst, evx_ix, evx_sl, evx_bf, evx_call, evx_gix, evx_ite, evsx_nil, evsx_cons, evT, evO, evOT, Env.get, bf_one, bf1, isi_str, isi_tup, isStr, isTupD, asD, truD, cmpD, cmpOp, eqE, nilEq, solid, endD, slOf, dOf, toInt, seqOf, seqE, seqS, seqJ, setTg, setTgs, List.mapM_cons, List.mapM_nil, Option.bind, Option.map, ixD, itD, i2, m6, eqD, sl0, zero_s, PyData.eqv, PyData.eqvAll]
  -- refusals
  have r1 : callF wd 100 progD 30 18 [.d (.tuple [ks, r])] = .pu (.tuple []) := refused 23 rfl
  have r2 : callF wd 100 progD 30 18 [.d (.tuple [ks, .str "rules", shS ss])] = .pu (.tuple [.str "rules"]) := refused 23 (by
    have : rulesB (.str "rules") = false := rfl
    simp [setupF, hk, this])
  have r3 : callF wd 100 progD 30 18 [.d (.list [ks, r, shS ss])] = .pu (.tuple []) := refused 23 rfl
  have i0 : atI [ks, r, shS ss] 0 = some ks := rfl
  have t7 : exS FF 100 B7 [.sc ns, .gn, s2, .un, .fz (dueD ss), .fz (.tuple [ks, r, shS ss]), .fz (.list []), s7, s8, .fz (.str (PyData.tuple [ks, r, shS ss]).shown), s10] = .pu (.nx [.sc ns, .gn, s2, .un, .fz (dueD ss), .fz (.tuple [ks, r, shS ss]), .fz (.list []), .fz (.list [.tuple [], .tuple [.str "rules"], .tuple []]), s8, .fz (.str (PyData.tuple [ks, r, shS ss]).shown), s10]) := by
    simp [B7, ofO_some, M.pu_bd, exsx_nil, exsx_cons, exx_asg, exx_par, exx_ret, exx_retN, exx_iff, exx_for, exx_whl, exx_raise, exx_gput, evx_c, evx_v, evx_bin, evx_cmp, evx_chain, evx_and, evx_or, evx_not, evx_tup, evx_lst, evx_ix, evx_sl, evx_bf, evx_call, evx_gix, evx_ite, evsx_nil, evsx_cons, evT, evO, evOT, Env.get, bf_one, bf1, isi_str, isi_tup, isStr, isTupD, asD, truD, cmpD, cmpOp, eqE, nilEq, solid, endD, slOf, dOf, toInt, seqOf, seqE, seqS, seqJ, setTg, setTgs, List.mapM_cons, List.mapM_nil, Option.bind, Option.map, slD_tup, c2, r1, r2, r3, ixD, itD, i2, i0, z3, listD]
  have q8 : eqD (.list [.tuple [], .tuple [.str "rules"], .tuple []]) (.list [.tuple [], .tuple [.str "rules"], .tuple []]) = some true := by decide +kernel
  have t8 : exS FF 100 B8 [.sc ns, .gn, s2, .un, .fz (dueD ss), .fz (.tuple [ks, r, shS ss]), .fz (.list []), .fz (.list [.tuple [], .tuple [.str "rules"], .tuple []]), s8, .fz (.str (PyData.tuple [ks, r, shS ss]).shown), s10] = .pu (.nx [.sc ns, .gn, s2, .un, .fz (dueD ss), .fz (.tuple [ks, r, shS ss]), .fz (.list []), .fz (.list [.tuple [], .tuple [.str "rules"], .tuple []]), s8, .fz (.str (PyData.tuple [ks, r, shS ss]).shown), s10]) := by
    simp [B8, ofO_some, M.pu_bd, exsx_nil, exsx_cons, exx_asg, exx_par, exx_ret, exx_retN, exx_iff, exx_for, exx_whl, exx_raise, exx_gput, evx_c, evx_v, evx_bin, evx_cmp, evx_chain, evx_and, evx_or, evx_not, evx_tup, evx_lst, evx_ix, evx_sl, evx_bf, evx_call, evx_gix, evx_ite, evsx_nil, evsx_cons, evT, evO, evOT, Env.get, bf_one, bf1, isi_str, isi_tup, isStr, isTupD, asD, truD, cmpD, cmpOp, eqE, nilEq, solid, endD, slOf, dOf, toInt, seqOf, seqE, seqS, seqJ, setTg, setTgs, List.mapM_cons, List.mapM_nil, Option.bind, Option.map, q8, z3, z1, zero_s]
  refine ⟨.fz (.list []), .fz (.list [.tuple [], .tuple [.str "rules"], .tuple []]), s10, ?_⟩
  rw [sqP t3, sqP t4, sqP t5, sqP t6, sqP t7, sqP t8, exsx_nil]
theorem pureOk : PureOk 30 100 := by
  intro ns hl g
  obtain ⟨gg, bg, hg⟩ := law_begun (wd := wd) dw.hb 29 ns hl
  obtain ⟨ds, ed, ld⟩ := rng_some (n := 5 + (if (ns.length : Int) < 20 then (ns.length : Int) else 20)) (by split <;> omega) (by split <;> omega)
  have ll : (ds.length : Int) ≤ 25 := by rw [ld]; split <;> omega
  obtain ⟨env, g2, e2, ⟨s2, s4, s5, s6, s7, s8, s9, s10, rfl⟩, hg2⟩ := forB_st (tg := 2) (B := exSs FF 100 BODY) (c := 200) (K := 400000) (I := fun env => ∃ s2 s4 s5 s6 s7 s8 s9 s10, env = [.sc ns, .gn, s2, .un, s4, s5, s6, s7, s8, s9, s10]) (by omega)
    (fun env x ⟨s2, s4, s5, s6, s7, s8, s9, s10, h⟩ => ⟨[.sc ns, .gn, .fz x, .un, s4, s5, s6, s7, s8, s9, s10], by rw [h]; rfl, ⟨.fz x, s4, s5, s6, s7, s8, s9, s10, rfl⟩, rfl⟩) ds 0 gg _ ⟨.un, .un, .un, .un, .un, .un, .un, .un, rfl⟩ hg (by omega) fun y hy env k' g' h1 h2 h3 h4 => by
      obtain ⟨s2, s4, s5, s6, s7, s8, s9, s10, rfl⟩ := h1
      obtain ⟨ks, r, ss, s8', g3, e3, ok, hk, hr, hg3⟩ := drawn (ns := ns) (s2 := s2) (s4 := s4) (s5 := s5) (s6 := s6) (s7 := s7) (s8 := s8) (s9 := s9) (s10 := s10) (by omega) h4 [B3, B4, B5, B6, B7, B8]
      obtain ⟨a6, a7, a10, e4⟩ := checked (ns := ns) (s2 := s2) (s4 := s4) (s6 := s6) (s7 := s7) (s8 := s8') (s9 := s9) (s10 := s10) ok hk hr
      refine ⟨_, g3, ?_, ⟨s2, .fz (dueD ss), .fz (.tuple [ks, r, shS ss]), a6, a7, s8', .fz (.str (PyData.tuple [ks, r, shS ss]).shown), a10, rfl⟩, hg3⟩
      show exSs FF 100 (B1 :: B2 :: [B3, B4, B5, B6, B7, B8]) _ g' = _
      rw [e3, e4]
      rfl
  refine ⟨gg, g, g2, ?_, ?_⟩
  · have e0 : b_law0 = .asg (.n 1) (.call 12 [(.v 0)]) := by kernel_rfl
    rw [e0]
    simp [lawEnv, ofO_some, M.pu_bd, exsx_nil, exsx_cons, exx_asg, exx_par, exx_ret, exx_retN, exx_iff, exx_for, exx_whl, exx_raise, exx_gput, evx_c, evx_v, evx_bin, evx_cmp, evx_chain, evx_and, evx_or, evx_not, evx_tup, evx_lst, evx_ix, evx_sl, evx_bf, evx_call, evx_gix, evx_ite, evsx_nil, evsx_cons, evT, evO, evOT, Env.get, bf_one, bf1, isi_str, isi_tup, isStr, isTupD, asD, truD, cmpD, cmpOp, eqE, nilEq, solid, endD, slOf, dOf, toInt, seqOf, seqE, seqS, seqJ, setTg, setTgs, List.mapM_cons, List.mapM_nil, Option.bind, Option.map, bd_ap, pu_ap, bg]
  · rw [e_law, law_eq]
    have ej : evJ FF (.rng1 RG) [.sc ns, .gn, .un, .un, .un, .un, .un, .un, .un, .un, .un] = .pu ds := by
      have er : ev FF RG [.sc ns, .gn, .un, .un, .un, .un, .un, .un, .un, .un, .un] = .pu (.d (.int (5 + (if (ns.length : Int) < 20 then (ns.length : Int) else 20)))) := by
        simp [RG, ofO_some, M.pu_bd, exsx_nil, exsx_cons, exx_asg, exx_par, exx_ret, exx_retN, exx_iff, exx_for, exx_whl, exx_raise, exx_gput, evx_c, evx_v, evx_bin, evx_cmp, evx_chain, evx_and, evx_or, evx_not, evx_tup, evx_lst, evx_ix, evx_sl, evx_bf, evx_call, evx_gix, evx_ite, evsx_nil, evsx_cons, evT, evO, evOT, Env.get, bf_one, bf1, isi_str, isi_tup, isStr, isTupD, asD, truD, cmpD, cmpOp, eqE, nilEq, solid, endD, slOf, dOf, toInt, seqOf, seqE, seqS, seqJ, setTg, setTgs, List.mapM_cons, List.mapM_nil, Option.bind, Option.map, binD, opD, addD, bfD, scLen, minD]
      have e1 : ∀ env, evJ FF (.rng1 RG) env = evI FF (.rng1 RG) env := fun env => by simp only [evJ]
      rw [e1, evI_rng1, er, M.pu_bd, toInt_int, M.pu_bd, ed, ofO_some]
    have t1 : exS FF 100 (.for_ (.n 2) (.rng1 RG) BODY) [.sc ns, .gn, .un, .un, .un, .un, .un, .un, .un, .un, .un] gg = .ok (.nx [.sc ns, .gn, s2, .un, s4, s5, s6, s7, s8, s9, s10]) g2 := by
      rw [exx_for, ej, M.pu_bd]
      exact e2
    show exSs FF 100 _ [.sc ns, .gn, .un, .un, .un, .un, .un, .un, .un, .un, .un] gg = _
    rw [sq t1, rest]
    rfl
end Kk28
end
open PySem PySem.W PySem.Calls PyProof.Rows
theorem PySem.Challenge.cw_frontjobs_k28_whole_mends_holds : PySem.Challenge.rw_frontjobs_k28_whole_mends.Holds := by
  w_on; o_law
  refine HandSHeadRun.head_any (r := OpenLaw.row PySem.Challenge.rw_frontjobs_k28_whole_mends) (q := view (OpenLaw.row PySem.Challenge.rw_frontjobs_k28_whole_mends).prog [Kk28.lawI]) (H := Kk28.hk) (ob := Kk28.ob) (M := 60000) (loose := Kk28.loose) (d := HandSHeadRun.topDef (OpenLaw.row PySem.Challenge.rw_frontjobs_k28_whole_mends).prog Kk28.lawI) (kwd := []) Kk28.ob_eq
    (by kernel_rfl) (fun s => by kernel_rfl) Kk28.run (by kernel_rfl) (by kernel_rfl) (by kernel_rfl) (by rfl) (by first | assumption | decide +kernel) (by decide +kernel) ⟨rfl, rfl, rfl, rfl, rfl, by decide +kernel⟩ ?hw ?hc
  case hw => w_witness2
  case hc =>
    refine PD.walk_ofG (l := PySem.Challenge.rw_frontjobs_k28_whole_mends) (n := 63) (k := PD.lv 30 + 3) (x := "script") (CX := fun w => L2.CX PySem.Challenge.pw_frontjobs_k28_whole_mends w) rfl (by decide) (by kernel_rfl) ⟨rfl, by decide, by decide⟩ ?F ?N
    case F =>
      intro w mg fa h Y G hmg0
      obtain ⟨K, KX, c, sysD⟩ := Y
      have hmg : mg ("law" : PySem.Str) = some (.ref fa) := by
        have e : (HandSHeadRun.topDef (OpenLaw.row PySem.Challenge.rw_frontjobs_k28_whole_mends).prog Kk28.lawI).name = ("law" : PySem.Str) := by kernel_rfl
        rw [← e]
        exact hmg0
      exact ⟨K, KX, Kk28.facts Kk28.pureOk KX sysD G hmg c⟩
    case N =>
      intro w H s e s2 z
      obtain ⟨_, _, _, _, _, _, _, _, _, _, _, _, q⟩ := z
      exact q
