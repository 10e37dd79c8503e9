import PyProof.Rows.All
import Wide.All
import OpenK.AllK
import Wide.FinOn
import HandS.TupSets
import HandS.SortOrd
import HandS.Comp
import HandS.Iter
import HandS.Text
import HandS.Dict
import HandS.Words
import HandS.WordsList
import HandS.WordsDict
import HandS.Ends
import HandS.TryOnly
import HandS.ExcOwn
import HandS.ExcCtx
import HandS.WordsExc
import HandS.IsInst
import HandS.More
import HandS.SlotsOwn
import HandS.Star
import HandS.Deep
import HandS.ClsMeth
import HandS.ForMost
import HandS.Wide
import HandS.Conv
import PySem.Challenge.RW_asunmoved_k16_readers_as_values
import HandS.Walk
import HandS.ForExc
import HandS.Property
import HandS.FStr
import HandS.HotCalls
import HandS.ExcInit
import HandS.ExcField
import HandS.ExcIs
import KE.KExcIs
import PyProof.ReprRoads
import HandS.DictComp
import HandS.TupAny
import HandS.DeepEq
import HandS.Finally
import KE.GoesEnum
set_option Elab.async false
set_option linter.all false
set_option maxRecDepth 100000
set_option maxHeartbeats 8000000
/-! Sets of tuples whose items are of one kind (texts, say), and sorted lists of them. -/
namespace Tq
open PySem PySem.Spec PyProof.Rows L2
/-- what a table asks of an item of a member -/
structure Mild {P : Program} {w : World} {κ : Type} [DecidableEq κ] (kd : KeyKind P w κ) : Prop where
  cls : ∀ n k v, kd.is k v = true → ofAClassStatement n v = pure false
  val : ∀ n k v, kd.is k v = true → ∃ b, hashByValue n v = pure b
theorem mild_str (P : Program) (w : World) : Mild (strKind P w) where
  cls n k v h := by obtain ⟨t, rfl⟩ := Value.isStrOf_shape h; cases n <;> rfl
  val n k v h := by obtain ⟨t, rfl⟩ := Value.isStrOf_shape h; exact ⟨false, by cases n <;> rfl⟩
abbrev Row (κ : Type) := Addr × List κ
section
variable {P : Program} {w : World} {κ : Type} [DecidableEq κ] {kd : KeyKind P w κ} {A : Around} {E : Value → Shared → Prop} {s : Shared}
/-- the items of a tuple, one by one -/
theorem each_is {ks : List κ} {vs : List Value} (x : ItemsAre kd ks vs) : ∀ v ∈ vs, ∃ k, kd.is k v = true := by
  induction x with
  | nil => exact fun v z => nomatch z
  | cons y _ ih => exact fun v z => (List.mem_cons.mp z).elim (fun e => ⟨_, e ▸ y⟩) (ih v)
theorem same_at {h h' : Heap} {ks : List κ} {b : Addr} (x : IsTupleKey kd h ks b) (k : ∀ o, h.get? b = some o → h'.get? b = some o) : IsTupleKey kd h' ks b := by
  obtain ⟨o, xs, n, ho, r⟩ := x; exact ⟨o, xs, n, k o ho, r⟩
/-- a member is not the set -/
theorem apart {h : Heap} {ks : List κ} {a b : Addr} {o : Obj} {es ep t} (x : IsTupleKey kd h ks b) (ho : h.get? a = some o) (hd : o.data = .set es ep t) : b ≠ a := by
  rintro rfl
  obtain ⟨o', xs, n, ho', _, hd', _⟩ := x
  cases ho.symm.trans ho'
  exact nomatch hd.symm.trans hd'
theorem no_cls (M : Mild kd) {ks : List κ} {b : Addr} {Q : Bool → Shared → Prop} (x : IsTupleKey kd s.heap ks b) (q : Q false s) : wpAny (model P w) A (ofAClassStatement 8 (.ref b)) Q E s := by
  have ty := x.typeIs
  obtain ⟨o, xs, n, ho, _, hd, hi⟩ := x
  unfold ofAClassStatement
  refine wpAny_bind (wpAny_typeOf ty ?_)
  simp only [beq_self_eq_true, if_true, Bool.not_true, Bool.false_eq_true, if_false, pure_bind]
  refine wpAny_bind (wpAny_seqItems ho hd (wpAny_bind ?_))
  show wpAny _ _ (forIn xs _ _) _ _ s
  rw [← Array.forIn_toList]
  refine wpAny_forIn_list _ (fun l r s' => r.1 = none ∧ s' = s ∧ ∀ v ∈ l, ∃ k, kd.is k v = true) _ (fun v l r s' z => ?_) (fun r s' z => ?_) _ _ ⟨rfl, rfl, each_is hi⟩
  · obtain ⟨_, rfl, al⟩ := z
    obtain ⟨k, hk⟩ := al v List.mem_cons_self
    rw [M.cls _ k v hk]
    exact wpAny_bind (wpAny_pure (wpAny_pure ⟨rfl, rfl, fun u hu => al u (.tail _ hu)⟩))
  · obtain ⟨r1, r2⟩ := r
    obtain ⟨e, rfl, _⟩ := z
    cases (show r1 = none from e)
    exact wpAny_pure q
theorem some_val (M : Mild kd) {ks : List κ} {b : Addr} {Q : Bool → Shared → Prop} (x : IsTupleKey kd s.heap ks b) (q : ∀ c, Q c s) : wpAny (model P w) A (hashByValue 8 (.ref b)) Q E s := by
  have ty := x.typeIs
  obtain ⟨o, xs, n, ho, _, hd, hi⟩ := x
  unfold hashByValue
  refine wpAny_bind (wpAny_specialOf ty F.slot_tuple_hash.lookup ?_)
  show wpAny _ _ (seqItems? (.ref b) >>= _) _ _ s
  refine wpAny_bind (wpAny_seqItems ho hd (wpAny_bind ?_))
  show wpAny _ _ (forIn xs _ _) _ _ s
  rw [← Array.forIn_toList]
  refine wpAny_forIn_list _ (fun l r s' => r.1 = none ∧ s' = s ∧ ∀ v ∈ l, ∃ k, kd.is k v = true) _ (fun v l r s' z => ?_) (fun r s' z => ?_) _ _ ⟨rfl, rfl, each_is hi⟩
  · obtain ⟨_, rfl, al⟩ := z
    obtain ⟨k, hk⟩ := al v List.mem_cons_self
    obtain ⟨c, e⟩ := M.val 7 k v hk
    rw [e]
    refine wpAny_bind (wpAny_pure ?_)
    cases c
    · exact wpAny_pure (wpAny_pure (q _))
    · exact wpAny_pure ⟨rfl, rfl, fun u hu => al u (.tail _ hu)⟩
  · obtain ⟨r1, r2⟩ := r
    obtain ⟨e, rfl, _⟩ := z
    cases (show r1 = none from e)
    exact wpAny_pure (q _)
end
end Tq

/-! The table of a set of such tuples: looking for one, and putting one in. -/
namespace Tq
open PySem PySem.Spec PyProof.Rows L2
section
variable {P : Program} {w : World} {κ : Type} [DecidableEq κ] {kd : KeyKind P w κ} {A : Around} {E : Value → Shared → Prop} {s : Shared}
abbrev hk (kd : KeyKind P w κ) (r : Row κ) : Int := tupleKeyHash kd r.2
abbrev ent (kd : KeyKind P w κ) (r : Row κ) : Int × Value := (hk kd r, .ref r.1)
/-- the set at a has these rows, in the order of its table -/
structure Lies (kd : KeyKind P w κ) (h : Heap) (a : Addr) (L : List (Row κ)) (es : Array (Int × Value)) (ep : Nat) (t : SetTable) : Prop where
  obj : ∃ o, h.get? a = some o ∧ o.ExactSet ∧ o.data = .set es ep t
  ents : es.toList = L.map (ent kd)
  tab : TabOk t (L.map (hk kd))
  dif : (L.map Prod.snd).Nodup
  led : w.params.followText "set-order" = true ∨ t.led = true
  wide : L.length * 5 < t.mask * 3
  few : L.length < 64
abbrev Are (kd : KeyKind P w κ) (h : Heap) (L : List (Row κ)) : Prop := ∀ r ∈ L, IsTupleKey kd h r.2 r.1
variable {a : Addr} {L : List (Row κ)} {es : Array (Int × Value)} {ep : Nat} {t : SetTable}
theorem len_of (e : es.toList = L.map (ent kd)) : es.size = L.length := by
  rw [← Array.length_toList, e, List.length_map]
theorem get_of (e : es.toList = L.map (ent kd)) {i : Nat} {r : Row κ} (h : L[i]? = some r) : es[i]? = some (ent kd r) := by
  rw [← Array.getElem?_toList, e, List.getElem?_map, h]; rfl
theorem fits_of (hs : t.place.size = es.size) (hd : t.dummies = #[]) (hm : es.size ≤ t.mask) : t.fits es.size = true := by
  unfold SetTable.fits SetTable.fill
  rw [hd, Bool.and_eq_true, beq_iff_eq, decide_eq_true_eq]
  exact ⟨hs, by show t.place.size + 0 ≤ t.mask; omega⟩
theorem Lies.sz (T : Lies kd s.heap a L es ep t) : t.place.size = L.length := by rw [T.tab.sz, List.length_map]
theorem Lies.ok (T : Lies kd s.heap a L es ep t) : t.fits es.size = true :=
  fits_of (by rw [T.sz, len_of T.ents]) T.tab.dm (by rw [len_of T.ents]; have := T.wide; omega)
/-- a search tells nobody anything -/
theorem unseen (M : Mild kd) {k : List κ} {b : Addr} {ys : List Value} {Q : Bool → Shared → Prop} (x : IsTupleKey kd s.heap k b) (hy : ∀ y ∈ ys, ∃ r : Row κ, y = .ref r.1 ∧ IsTupleKey kd s.heap r.2 r.1) (q : Q false s) :
    wpAny (model P w) A (searchCouldBeSeen (.ref b) ys) Q E s := by
  unfold searchCouldBeSeen
  refine wpAny_bind (wpAny_forIn_list _ (fun l r s' => r.1 = none ∧ s' = s ∧ ∀ y ∈ l, ∃ r : Row κ, y = .ref r.1 ∧ IsTupleKey kd s.heap r.2 r.1) _ (fun v l r s' z => ?_) (fun r s' z => ?_) _ _ ⟨rfl, rfl, hy⟩)
  · obtain ⟨_, rfl, al⟩ := z
    obtain ⟨r', rfl, y⟩ := al v List.mem_cons_self
    have on : ∀ u ∈ l, _ := fun u hu => al u (.tail _ hu)
    dsimp only
    split
    · exact wpAny_pure ⟨rfl, rfl, on⟩
    · refine wpAny_bind (wpAny_eqIsQuiet_tuple x ?_)
      simp only [Bool.not_true, Bool.false_eq_true, if_false]
      refine wpAny_bind (wpAny_eqIsQuiet_tuple y ?_)
      simp only [Bool.not_true, Bool.false_eq_true, if_false]
      refine wpAny_bind (no_cls M x ?_)
      simp only [Bool.false_eq_true, if_false]
      refine wpAny_bind (no_cls M y ?_)
      simp only [Bool.false_eq_true, if_false]
      exact wpAny_pure ⟨rfl, rfl, on⟩
  · obtain ⟨r1, r2⟩ := r
    obtain ⟨e, rfl, _⟩ := z
    cases (show r1 = none from e)
    exact wpAny_pure q
/-- the way of a hash from one of its steps on -/
abbrev from_ (m : Nat) (h : Int) (c : Nat) : SetTable.Probe := nth m (runAt m (SetTable.bits h % (m + 1)) (SetTable.bits h)) c
theorem from_j (m : Nat) (h : Int) (c q : Nat) : (nth m (from_ m h c) q).j = way m h (c + q) := congrArg SetTable.Probe.j (nth_add m c _ q).symm
theorem from_dummy (m : Nat) (h : Int) (c : Nat) : (from_ m h c).dummy = none := by
  have : ∀ (n : Nat) (p : SetTable.Probe), p.dummy = none → (nth m p n).dummy = none := by
    intro n
    induction n with
    | zero => exact fun p h => h
    | succ n ih => exact fun p h => ih _ (by unfold adv; split <;> exact h)
  exact this c _ rfl
section
variable {x : Addr} {k : List κ}
/-- what is left of a search from step c on ends as it should -/
theorem seek_from (M : Mild kd) (T : Lies kd s.heap a L es ep t) (mem : Are kd s.heap L) (hx : IsTupleKey kd s.heap k x) (hu : A.units < cLine) {N : Nat} (hN : N < 10 * SetTable.turns t.mask)
    (free : way t.mask (tupleKeyHash kd k) N ∉ t.place.toList) (full : ∀ c, c < N → way t.mask (tupleKeyHash kd k) c ∈ t.place.toList) {Q : SetFound → Shared → Prop}
    (yes : k ∈ L.map Prod.snd → Q (.there none) s) (no : k ∉ L.map Prod.snd → Q (.free (way t.mask (tupleKeyHash kd k) N) false) s) (f : Nat) :
    ∀ (c : Nat) (st : Option SetTable.Probe), st.getD (t.probeStart (tupleKeyHash kd k)) = from_ t.mask (tupleKeyHash kd k) c → c ≤ N → N - c < f →
      (∀ (i : Nat) r, L[i]? = some r → r.2 = k → ∃ c', c ≤ c' ∧ c' < N ∧ t.place.toList[i]? = some (way t.mask (tupleKeyHash kd k) c')) →
      wpAny (model P w) A (setSearchFrom a (.ref x) (tupleKeyHash kd k) true f st) Q E s := by
  obtain ⟨o, ho, hex, hd⟩ := T.obj
  generalize hH : tupleKeyHash kd k = H at *
  have hashAt : ∀ {i : Nat} {r : Row κ}, L[i]? = some r → (fun i => (es[i]?.map (·.1)).getD 0) i = hk kd r := fun {i r} e => by
    show (es[i]?.map (·.1)).getD 0 = _
    rw [get_of T.ents e]; rfl
  have same : ∀ r : Row κ, r.2 = k → hk kd r = H := fun r e => by rw [← hH, ← e]
  induction f with
  | zero => exact fun c st _ _ z _ => absurd z (Nat.not_lt_zero _)
  | succ f ih =>
    intro c st hst hc hf later
    rw [setSearchFrom_succ]
    refine wpAny_bind (wpAny_setState_of ho hd T.ok ?_)
    dsimp only
    refine wp_if_neg (by unfold SetTable.gaveWay; rw [mask_odd T.tab.mok]; decide) ?_
    try refine wpAny_bind (wpAny_pure ?_)
    have met := go_spec t T.tab.ris T.tab.dm (fun i => (es[i]?.map (·.1)).getD 0) H (10 * SetTable.turns t.mask) (N - c) (from_ t.mask H c) (from_dummy _ _ _) (by omega)
      (fun q hq => by rw [from_j]; exact full _ (by omega)) (by rw [from_j, show c + (N - c) = N by omega]; exact free)
    rw [← hst] at met
    rcases met with ⟨q, i, hq, hi, hh, pass, hp⟩ | ⟨pass, hp⟩
    · rw [show t.probe (fun i => (es[i]?.map (·.1)).getD 0) H (st.getD (t.probeStart H)) = _ from hp]
      rw [hst] at hi pass ⊢
      rw [from_j] at hi ⊢
      dsimp only
      have hil : i < L.length := by
        have := (List.getElem?_eq_some_iff.mp hi).1
        rw [Array.length_toList, T.sz] at this; exact this
      obtain ⟨r, hr⟩ : ∃ r, L[i]? = some r := ⟨_, List.getElem?_eq_getElem hil⟩
      have hm := List.mem_of_getElem? hr
      have sl : t.slot (way t.mask H (c + q)) = .live i := slot_live T.tab.ris hi
      have tail : wpAny (model P w) A (searchRest a (.ref x) H true f es t (way t.mask H (c + q)) i (nth t.mask (from_ t.mask H c) (q + 1))) Q E s := by
        unfold searchRest
        rw [get_of T.ents hr]
        refine wpAny_bind (wpAny_holding (wpAny_eqBool_tuple hu (mem r hm) hx ?_))
        refine wpAny_bind (wpAny_setState_of ho hd T.ok ?_)
        dsimp only
        by_cases e : r.2 = k
        · exact wp_if_pos (by simp [e]) (wpAny_pure (yes (List.mem_map.mpr ⟨r, hm, e⟩)))
        · refine wp_if_neg (by simp [e]) ?_
          try refine wpAny_bind (wpAny_pure ?_)
          rw [sameMem]
          simp only [if_true, sl, get_of T.ents hr]
          refine wpAny_bind (wpAny_isSame_ref_self (wpAny_bind (wpAny_pure ?_)))
          simp only [if_true]
          refine wp_if_neg (by simp [e]) ?_
          refine ih (c + (q + 1)) _ (nth_add t.mask c _ (q + 1)).symm (by omega) (by omega) fun i0 r0 h0 e0 => ?_
          obtain ⟨c', l1, l2, l3⟩ := later i0 r0 h0 e0
          refine ⟨c', ?_, l2, l3⟩
          rcases Nat.lt_trichotomy c' (c + q) with z | z | z
          · refine absurd ((hashAt h0).trans (same r0 e0)) (pass (c' - c) i0 (by omega) ?_)
            rw [from_j, show c + (c' - c) = c' by omega]; exact l3
          · have := slot_live T.tab.ris (z ▸ l3)
            rw [sl] at this
            injection this with this
            rw [← this, hr] at h0
            exact absurd ((congrArg Prod.snd (Option.some.inj h0)).trans e0) e
          · omega
      by_cases hl : t.led = true
      · refine wp_if_neg (by simp [hl]) ?_
        try refine wpAny_bind (wpAny_pure ?_)
        exact tail
      · refine wp_if_pos (by simp [hl]) (wpAny_bind (unseen M hx (fun y hy => ?_) (wp_if_neg (by decide) ?_)))
        · obtain ⟨e, he, rfl⟩ := List.mem_map.mp hy
          have he : e ∈ es.toList := by
            have : e ∈ es ∧ e.1 = H := by simpa using he
            simpa using this.1
          rw [T.ents] at he
          obtain ⟨r', hr', rfl⟩ := List.mem_map.mp he
          exact ⟨r', rfl, mem r' hr'⟩
        · try refine wpAny_bind (wpAny_pure ?_)
          exact tail
    · rw [show t.probe (fun i => (es[i]?.map (·.1)).getD 0) H (st.getD (t.probeStart H)) = _ from hp]
      rw [hst] at pass ⊢
      rw [from_j, show c + (N - c) = N by omega]
      refine wpAny_pure (no fun z => ?_)
      obtain ⟨r, hr, e⟩ := List.mem_map.mp z
      obtain ⟨i, hi, ei⟩ := List.getElem_of_mem hr
      have h0 : L[i]? = some r := by rw [List.getElem?_eq_getElem hi, ei]
      obtain ⟨c', l1, l2, l3⟩ := later i r h0 e
      refine pass (c' - c) i (by omega) ?_ ((hashAt h0).trans (same r e))
      rw [from_j, show c + (c' - c) = c' by omega]; exact l3
/-- a search as putting in asks for it -/
theorem seek (M : Mild kd) (T : Lies kd s.heap a L es ep t) (mem : Are kd s.heap L) (hx : IsTupleKey kd s.heap k x) (hu : A.units < cLine) {Q : SetFound → Shared → Prop} (yes : k ∈ L.map Prod.snd → Q (.there none) s)
    (no : ∀ N, k ∉ L.map Prod.snd → way t.mask (tupleKeyHash kd k) N ∉ t.place.toList → (∀ c, c < N → way t.mask (tupleKeyHash kd k) c ∈ t.place.toList) → Q (.free (way t.mask (tupleKeyHash kd k) N) false) s) :
    wpAny (model P w) A (setSearch a (.ref x) (tupleKeyHash kd k) true) Q E s := by
  have room := T.wide
  obtain ⟨N, b, free, full⟩ := T.tab.first (by rw [List.length_map]; omega) (tupleKeyHash kd k)
  have most : 10 * SetTable.turns t.mask ≤ 1420 := by
    unfold SetTable.turns
    rcases T.tab.mok with e | e | e <;> omega
  unfold setSearch
  refine seek_from M T mem hx hu b free full yes (fun z => no N z free full) 100000 0 none rfl (Nat.zero_le _) (by omega) fun i r hr e => ?_
  have hi : i < t.place.toList.length := by
    rw [Array.length_toList, T.sz]; exact (List.getElem?_eq_some_iff.mp hr).1
  obtain ⟨c, hc, ec⟩ := T.tab.before free (i := i) (h := tupleKeyHash kd k) (by rw [List.getElem?_map, hr, ← e]; rfl) (List.getElem?_eq_getElem hi)
  exact ⟨c, Nat.zero_le _, hc, by rw [List.getElem?_eq_getElem hi, ec]⟩
end
end
end Tq

/-! Putting a tuple in; a set of the items of a list. -/
namespace Tq
open PySem PySem.Spec PyProof.Rows L2
section
variable {P : Program} {w : World} {κ : Type} [DecidableEq κ] {kd : KeyKind P w κ} {A : Around} {E : Value → Shared → Prop} {s : Shared}
variable {a : Addr} {L : List (Row κ)} {es : Array (Int × Value)} {ep : Nat} {t : SetTable}
theorem map_range {α : Type} (l : List α) (d : α) : (List.range l.length).map (fun i => l.getD i d) = l := by
  apply List.ext_getElem
  · simp
  · intro i h1 h2; simp [List.getD_eq_getElem?_getD, h2]
/-- the entries in another order are those of the rows in that order -/
theorem in_order {order : Array Nat} (e : es.toList = L.map (ent kd)) (pm : order.toList.Perm (List.range L.length)) :
    ∃ L2 : List (Row κ), (order.filterMap (es[·]?)).toList = L2.map (ent kd) ∧ L2.Perm L ∧ L2.map (hk kd) = order.toList.map fun i => (es.map (·.1)).getD i 0 := by
  have d : Row κ := (0, [])
  have bd : ∀ i ∈ order.toList, i < L.length := fun i hi => List.mem_range.mp (pm.mem_iff.mp hi)
  refine ⟨order.toList.map fun i => L.getD i d, ?_, ?_, ?_⟩
  · rw [Array.toList_filterMap, List.map_map]
    generalize order.toList = l at bd
    clear pm
    induction l with
    | nil => rfl
    | cons i l ih =>
      have hi := bd i List.mem_cons_self
      have g := get_of e (List.getElem?_eq_getElem hi)
      rw [List.filterMap_cons_some g, ih fun j hj => bd j (.tail _ hj), List.map_cons]
      simp [hi]
  · have := pm.map fun i => L.getD i d
    rwa [map_range] at this
  · rw [List.map_map]
    refine List.map_congr_left fun i hi => ?_
    have g := get_of e (List.getElem?_eq_getElem (bd i hi))
    have hi' := bd i hi
    have g2 : (es.map (·.1))[i]? = some (hk kd L[i]) := by rw [Array.getElem?_map, g]; rfl
    simp [bd i hi, Array.getD_eq_getD_getElem?, g2]
/-- the table is laid anew -/
theorem anew {o : Obj} (ho : s.heap.get? a = some o) (hex : o.ExactSet) (hd : o.data = .set es ep t) (e : es.toList = L.map (ent kd)) (T : TabOk t (L.map (hk kd))) (hm : L.length ≤ t.mask) (dif : (L.map Prod.snd).Nodup)
    (led : w.params.followText "set-order" = true ∨ t.led = true) (few : L.length < 64) {n m : Nat} (hn : SetTable.sizeAbove n - 1 = m) (ok : MaskOk m) (le : SetTable.sizeAbove n ≤ 128) (wide : L.length * 5 < m * 3) {Q : Unit → Shared → Prop}
    (q : ∀ h' L' es' ep' t', Heap.SameBut a s.heap h' → Lies kd h' a L' es' ep' t' → L'.Perm L → Q () { s with heap := h' }) : wpAny (model P w) A (setRelay a n) Q E s := by
  have hz := len_of e
  obtain ⟨t', order, er, pm, T', em, el, _, _⟩ := relaid_ok t (hs := es.map (·.1)) hn ok (by rw [Array.size_map, hz]; omega)
  rw [Array.size_map, hz] at pm
  obtain ⟨L2, e1, e2, e3⟩ := in_order e pm
  have hz2 : (order.filterMap (es[·]?)).size = es.size := by rw [len_of e1, hz, e2.length_eq]
  have f : t.fits es.size = true := fits_of (by rw [T.sz, List.length_map, hz]) T.dm (by omega)
  rw [setRelay_eq]
  refine wpAny_bind (wpAny_setState_of ho hd f (wp_if_neg (by rw [sizeLine_eq]; omega) ?_))
  try refine wpAny_bind (wpAny_pure ?_)
  rw [er]
  refine wpAny_bind (wp_if_neg (by rw [hz2]; simp) ?_)
  try refine wpAny_bind (wpAny_pure ?_)
  refine wpAny_pure (wpAny_storeSet_of ho hd ?_ (by rw [hz2, hz, sizeLine_eq]; omega))
  refine q _ L2 _ (ep + 1) t' (Heap.SameBut.update ..) ⟨⟨_, store_at ho hd, hex, rfl⟩, e1, e3 ▸ T', (e2.map _).nodup_iff.mpr dif, el ▸ led, ?_, e2.length_eq ▸ few⟩ e2
  rw [e2.length_eq, em]; exact wide
theorem tab_like {t t' : SetTable} {hs : List Int} (T : TabOk t hs) (e1 : t'.place = t.place) (e2 : t'.dummies = t.dummies) (e3 : t'.mask = t.mask) : TabOk t' hs := by
  refine ⟨e1 ▸ T.ris, e2 ▸ T.dm, e1 ▸ T.sz, e3 ▸ T.mok, ?_, ?_⟩
  · rw [e1, e3]; exact T.bd
  · rw [e1, e3]; exact T.reach
/-- a tuple is put in -/
theorem put_in (M : Mild kd) (T : Lies kd s.heap a L es ep t) (mem : Are kd s.heap L) {x : Addr} {k : List κ} (hx : IsTupleKey kd s.heap k x) (hu : A.units < cLine) (few : L.length + 1 < 64) {Q : Bool → Shared → Prop}
    (q : ∀ b h' L' es' ep' t', Heap.SameBut a s.heap h' → Lies kd h' a L' es' ep' t' → (k ∈ L.map Prod.snd ∧ L' = L) ∨ (k ∉ L.map Prod.snd ∧ L'.Perm ((x, k) :: L)) → Q b { s with heap := h' }) :
    wpAny (model P w) A (setAddHashed a (.ref x) (tupleKeyHash kd k)) Q E s := by
  obtain ⟨o, ho, hex, hd⟩ := T.obj
  have hz := len_of T.ents
  have wide := T.wide
  unfold setAddHashed
  refine wpAny_holding ?_
  rw [show (100000 : Nat) = 99999 + 1 from rfl, setAddHashedIn_succ]
  refine wpAny_bind (wpAny_setState_of ho hd T.ok (wp_if_neg (by simp [byScan, Value.scannable]) ?_))
  try refine wpAny_bind (wpAny_pure ?_)
  refine wpAny_bind (seek M T mem hx hu (fun z => wpAny_pure (q false s.heap L es ep t (Heap.SameBut.refl a s.heap) T (.inl ⟨z, rfl⟩))) fun N z free full => ?_)
  refine wpAny_bind (wpAny_setState_of ho hd T.ok ?_)
  obtain ⟨q1, q2, q3, q4, q5, _, _, _, q9⟩ := T.tab.put free full
  dsimp only
  generalize hj : way t.mask (tupleKeyHash kd k) N = j at q1 q2 q3 q4 q5 q9 ⊢
  generalize ht : t.put j = tp at q1 q3 q4 q5 q9 ⊢
  obtain ⟨t1, p⟩ := tp
  dsimp only at q1 q3 q4 q5 q9 ⊢
  subst q1
  generalize hp : SetTable.below t.place j = p at q2 q3 ⊢
  -- the rows behind it
  have pm : (L.take p ++ (x, k) :: L.drop p).Perm ((x, k) :: L) := put_perm L p (x, k)
  have ents : (SetTable.insertAt es p (tupleKeyHash kd k, Value.ref x)).toList = (L.take p ++ (x, k) :: L.drop p).map (ent kd) := by
    rw [SetTable.toList_insertAt, T.ents, List.map_append, List.map_cons, List.map_take, List.map_drop]
  rw [show (L.map (hk kd)).take p ++ tupleKeyHash kd k :: (L.map (hk kd)).drop p = (L.take p ++ (x, k) :: L.drop p).map (hk kd) by rw [List.map_append, List.map_cons, List.map_take, List.map_drop]] at q3
  generalize L.take p ++ (x, k) :: L.drop p = L1 at pm ents q3
  have len : L1.length = L.length + 1 := pm.length_eq
  have dif : (L1.map Prod.snd).Nodup := (pm.map _).nodup_iff.mpr (List.nodup_cons.mpr ⟨z, T.dif⟩)
  generalize hE : SetTable.insertAt es p (tupleKeyHash kd k, Value.ref x) = es1 at ents ⊢
  have hz1 := len_of ents
  have rest : ∀ t2 : SetTable, t2.place = t1.place → t2.dummies = t1.dummies → t2.mask = t1.mask → t2.led = t1.led → t2.fill = t1.fill →
      wpAny (model P w) A (storeSet a es1 t2) (fun _ s' => wpAny (model P w) A (if (!false && t2.tooFull) = true then (setRelay a (SetTable.grown (es.size + 1)) >>= fun _ => pure true) else pure true) Q E s') E s := by
    intro t2 g1 g2 g3 g4 g5
    have T2 := tab_like q3 g1 g2 g3
    have led : w.params.followText "set-order" = true ∨ t2.led = true := by rw [g4, q5]; exact T.led
    refine wpAny_storeSet_of ho hd ?_ (by rw [hz1, len, sizeLine_eq]; omega)
    have sb : Heap.SameBut a s.heap (s.heap.update a (Obj.putSet es1 t2)) := Heap.SameBut.update ..
    have ho1 := store_at (es' := es1) (t' := t2) ho hd
    generalize s.heap.update a (Obj.putSet es1 t2) = h1 at sb ho1 ⊢
    have fill : t2.fill = L.length + 1 := by rw [g5, q9, List.length_map]
    by_cases full2 : t2.tooFull = true
    · refine wp_if_pos (by simp [full2]) (wpAny_bind ?_)
      unfold SetTable.tooFull at full2
      rw [decide_eq_true_eq, fill, g3, q4] at full2
      have go : ∀ m, SetTable.sizeAbove (SetTable.grown (L.length + 1)) - 1 = m → MaskOk m → SetTable.sizeAbove (SetTable.grown (L.length + 1)) ≤ 128 → (L.length + 1) * 5 < m * 3 → L.length + 1 ≤ t.mask →
          wpAny (model P w) A (setRelay a (SetTable.grown (es.size + 1))) (fun _ s' => wpAny (model P w) A (pure true) Q E s') E { s with heap := h1 } := fun m m1 m2 m3 m4 m5 => by
        rw [hz]
        refine anew (s := { s with heap := h1 }) ho1 ⟨hex.1, hex.2.1, hex.2.2⟩ rfl ents T2 (by rw [len, g3, q4]; exact m5) dif led (by rw [len]; exact few) m1 m2 m3 (by rw [len]; exact m4) fun h2 L2 es2 ep2 t3 sb2 T3 pm2 => ?_
        exact wpAny_pure (q true h2 L2 es2 ep2 t3 (sb.trans sb2) T3 (.inr ⟨z, pm2.trans pm⟩))
      rcases T.tab.mok with e | e | e
      · have l4 : L.length = 4 := by omega
        refine go 31 (by rw [l4, size_20]) (.inr (.inl rfl)) (by rw [l4, size_20]; decide) (by omega) (by omega)
      · have l4 : L.length = 18 := by omega
        refine go 127 (by rw [l4, size_76]) (.inr (.inr rfl)) (by rw [l4, size_76]; decide) (by omega) (by omega)
      · omega
    · refine wp_if_neg (by simp [full2]) (wpAny_pure (q true h1 L1 es1 (ep + 1) t2 sb ⟨⟨_, ho1, ⟨hex.1, hex.2.1, hex.2.2⟩, rfl⟩, ents, T2, dif, led, ?_, by rw [len]; exact few⟩ (.inr ⟨z, pm⟩)))
      unfold SetTable.tooFull at full2
      rw [decide_eq_true_eq, fill] at full2
      rw [len]; omega
  by_cases pl : t1.plain = true
  · refine wp_if_pos pl (wpAny_bind (some_val M hx fun c => wpAny_bind ?_))
    cases c
    · exact rest _ rfl rfl rfl rfl rfl
    · exact rest t1 rfl rfl rfl rfl rfl
  · refine wp_if_neg pl ?_
    first
      | exact wpAny_bind (wpAny_pure (wpAny_bind (rest t1 rfl rfl rfl rfl rfl)))
      | exact wpAny_bind (rest t1 rfl rfl rfl rfl rfl)
end
end Tq

/-! The set of the items of a list, all of them such tuples. -/
namespace Tq
open PySem PySem.Spec PyProof.Rows L2
section
variable {P : Program} {w : World} {κ : Type} [DecidableEq κ] {kd : KeyKind P w κ} {A : Around} {E : Value → Shared → Prop} {s : Shared}
/-- what the set holds behind so many items -/
structure Held (ks : List (Row κ)) (i : Nat) (L : List (Row κ)) : Prop where
  of : ∀ r ∈ L, r ∈ ks
  to : ∀ r ∈ ks.take i, r.2 ∈ L.map Prod.snd
  le : L.length ≤ i
theorem Held.next {ks L L' : List (Row κ)} {i : Nat} {r : Row κ} (h : Held ks i L) (e : ks[i]? = some r) (c : (r.2 ∈ L.map Prod.snd ∧ L' = L) ∨ (r.2 ∉ L.map Prod.snd ∧ L'.Perm ((r.1, r.2) :: L))) : Held ks (i + 1) L' := by
  have tk : ks.take (i + 1) = ks.take i ++ [r] := by rw [List.take_add_one, e]; rfl
  have step : (∀ q ∈ L', q ∈ ks) ∧ (∀ k, k = r.2 ∨ k ∈ L.map Prod.snd → k ∈ L'.map Prod.snd) ∧ L'.length ≤ i + 1 := by
    rcases c with ⟨c, rfl⟩ | ⟨_, pm⟩
    · exact ⟨h.of, fun k z => z.elim (fun z => z ▸ c) id, Nat.le_succ_of_le h.le⟩
    · refine ⟨fun q hq => ?_, fun k z => ?_, ?_⟩
      · rcases List.mem_cons.mp (pm.mem_iff.mp hq) with z | z
        · exact z ▸ List.mem_of_getElem? e
        · exact h.of q z
      · rw [(pm.map Prod.snd).mem_iff]
        exact List.mem_cons.mpr z
      · rw [pm.length_eq]; exact Nat.succ_le_succ h.le
  refine ⟨step.1, fun q hq => ?_, step.2.2⟩
  rw [tk] at hq
  rcases List.mem_append.mp hq with z | z
  · exact step.2.1 _ (.inr (h.to q z))
  · exact step.2.1 _ (.inl (by rw [List.mem_singleton.mp z]))
abbrev newSet (w : World) : Obj := { cls := .type "set", dict := none, data := .set #[] 0 (.fresh 0 0 (!w.params.followText "set-order")) }
theorem lies_new {h : Heap} {a : Addr} (ho : h.get? a = some (newSet w)) : Lies kd h a [] #[] 0 (.fresh 0 0 (!w.params.followText "set-order")) where
  obj := ⟨_, ho, ⟨rfl, rfl, rfl⟩, rfl⟩
  ents := rfl
  tab := ⟨.nil, rfl, rfl, .inl rfl, fun _ z => (by cases z), fun i h j z => (by simp at z)⟩
  dif := .nil
  led := by
    show _ ∨ (!w.params.followText "set-order") = true
    cases w.params.followText "set-order" <;> simp
  wide := by show 0 * 5 < 7 * 3; decide
  few := by show 0 < 64; decide
theorem Lies.on {h h' : Heap} {a : Addr} {L : List (Row κ)} {es ep t} (T : Lies kd h a L es ep t) (k : ∀ o, h.get? a = some o → h'.get? a = some o) : Lies kd h' a L es ep t :=
  let ⟨o, ho, r⟩ := T.obj; ⟨⟨o, k o ho, r⟩, T.ents, T.tab, T.dif, T.led, T.wide, T.few⟩
/-- the turns that put all items in -/
theorem all_in (M : Mild kd) {I : Addr} {fp wr : List Addr} {G : Array GenState → Array GenState → Prop} {n : Nat} {Pv : Nat → Value → Prop} {St : Nat → Shared → Prop} {R : Result → Shared → Prop} (W : WalksS P w A.in1 I fp wr G n Pv St)
    (S : Addr) (out : S ∉ fp) (ks : List (Row κ)) (hn : n = ks.length) (few : ks.length < 64) (val : ∀ i v, Pv i v → ∃ r, ks[i]? = some r ∧ v = .ref r.1) (h0 : Heap) (mem : Are kd h0 ks) (S0 : h0.get? S = none) (w0 : ∀ b ∈ wr, h0.get? b = none)
    (hu : A.in1.units < cLine) (g0 : Array GenState) (d0) (o0)
    (fin : ∀ s' L es ep t, Lies kd s'.heap S L es ep t → Held ks n L → (∀ b o, h0.get? b = some o → s'.heap.get? b = some o) → G g0 s'.gens → s'.drawn = d0 → s'.os = o0 → R (.ok (.ret .none)) s') (k : Nat) :
    ∀ (i : Nat) (s : Shared), n - i = k → i ≤ n → St i s → (∀ b o, h0.get? b = some o → s.heap.get? b = some o) → (∃ L es ep t, Lies kd s.heap S L es ep t ∧ Held ks i L) → G g0 s.gens → s.drawn = d0 → s.os = o0 →
      codeAny (model P w) A (.builtin "set.update.loop" ⟨[.ref S, .ref I], []⟩) R s := by
  have Sw : S ∉ wr := fun z => out (W.sub _ z)
  induction k with
  | zero =>
    intro i s hk hi st keep ⟨L, es, ep, t, T, H⟩ eg ed eo
    obtain rfl : i = n := by omega
    refine codeAny_builtin F.entry_set_update_loop ?_
    rw [Around.under_plainId F.plain_set_update_loop _]
    show wpAny _ A.in1 (pyNext (.ref I) >>= _) _ _ s
    refine wpAny_bind (W.done s _ _ st fun s' mv => ?_)
    show wpAny _ A.in1 (ret Value.none) _ _ s'
    refine wpAny_pure (fin s' L es ep t (T.on fun o e => mv.heap S o Sw e) H (fun b o e => mv.heap b o (fun z => ?_) (keep b o e)) (W.gtrans _ _ _ eg mv.gens) (mv.drawn.trans ed) (mv.os.trans eo))
    exact nomatch (w0 b z).symm.trans e
  | succ k ih =>
    intro i s hk hi st keep ⟨L, es, ep, t, T, H⟩ eg ed eo
    refine codeAny_builtin F.entry_set_update_loop ?_
    rw [Around.under_plainId F.plain_set_update_loop _]
    show wpAny _ A.in1 (pyNext (.ref I) >>= _) _ _ s
    refine wpAny_bind (W.item i s _ _ (by omega) st fun v s' hv st' mv => ?_)
    obtain ⟨r, hr, rfl⟩ := val i v hv
    have keep' : ∀ b o, h0.get? b = some o → s'.heap.get? b = some o := fun b o e => mv.heap b o (fun z => nomatch (w0 b z).symm.trans e) (keep b o e)
    have now : ∀ q : Row κ, q ∈ ks → IsTupleKey kd s'.heap q.2 q.1 := fun q hq => same_at (mem q hq) (keep' q.1)
    show wpAny _ A.in1 (holding [Value.ref r.1] (setAdd S (.ref r.1)) >>= _) _ _ s'
    refine wpAny_bind (wpAny_holding ?_)
    unfold setAdd
    refine wpAny_holding (wpAny_bind (wpAny_pyHash_tuple hu (now r (List.mem_of_getElem? hr)) ?_))
    refine put_in (s := { s' with toks := s'.toks + (r.2.length + 1) }) M (T.on fun o e => mv.heap S o Sw e) (fun q hq => now q (H.of q hq)) (now r (List.mem_of_getElem? hr)) hu (by have := H.le; omega) fun b h' L' es' ep' t' sb T' c => ?_
    refine wpAny_pure ⟨plainId_quiet F.plain_set_update_loop _, ih (i + 1) _ (by omega) (by omega) (W.frame _ s' _ _ st' (Nat.le_add_right _ _) fun b hb o e => ?_) (fun b o e => ?_) ⟨L', es', ep', t', T', H.next hr c⟩ (W.gtrans _ _ _ eg mv.gens) (mv.drawn.trans ed) (mv.os.trans eo)⟩
    · exact (sb.2 b fun z => out (z ▸ hb)).trans e
    · exact (sb.2 b fun z => by rw [z, S0] at e; cases e).trans (keep' b o e)
/-- set(l), l a list of such tuples -/
theorem call_set (M : Mild kd) {l : Addr} {items : Array Value} (ks : List (Row κ)) {Q : Value → Shared → Prop} (hh : A.handled = none) (hl : s.heap.IsList l items) (hi : items.toList = ks.map fun r => Value.ref r.1) (mem : Are kd s.heap ks)
    (few : ks.length < 64) (hu : A.units + 3 < cLine)
    (q : ∀ (h' : Heap) (tk : Nat) L es ep t, Lies kd h' s.heap.objs.size L es ep t → Held ks ks.length L → (∀ b o, s.heap.get? b = some o → h'.get? b = some o) → Q (.ref s.heap.objs.size) { s with heap := h', toks := tk }) :
    wpAny (model P w) A (call (.type "set") [.ref l]) Q E s := by
  have hn : items.size = ks.length := by rw [← Array.length_toList, hi, List.length_map]
  generalize hS : s.heap.objs.size = S at q ⊢
  have free : ∀ b, S ≤ b → s.heap.get? b = none := fun b hb => Heap.get?_none_of_le (hS ▸ hb)
  have lS : l < S := by obtain ⟨o, ho, _⟩ := hl; exact hS ▸ Heap.lt_size ho
  obtain ⟨c, tl, mro⟩ := F.called_set.mro
  have f1 := F.called_set.made
  have f2 := F.called_set.sub
  have f3 := F.called_set.notType
  have f4 := F.called_set.canCreate
  have f5 := F.typeCall_set_1 (.ref l)
  refine wpAny_call (codeAny_of_tree ?_)
  show wpAny _ _ (callAny (.type "set") _) _ _ _
  refine wpAny_pure ⟨Code.quiet_builtin _ (by decide +kernel), codeAny_builtin F.entry_type_call ?_⟩
  rw [Around.under_plain (weight_type_call_type "set" [.ref l] []) rfl]
  repeat (any_goals (first | assumption | wp_step))
  refine codeAny_mono (code_set_led1 (.ref l) (E := E) (Q₁ := fun obj s₁ => obj = .ref S ∧ s₁ = { s with heap := s.heap.push (newSet w) }) ⟨by rw [hS], rfl⟩) fun r s₁ hr => ?_
  match r, hr with
  | .error e, hr => exact hr
  | .ok (.ret obj), hr =>
    obtain ⟨rfl, rfl⟩ := hr
    have at0 : (s.heap.push (newSet w)).get? S = some (newSet w) := hS ▸ Heap.get?_push_size _ rfl
    have ty : Shared.TypeIs { s with heap := s.heap.push (newSet w) } (.ref S) "set" := ⟨_, at0, rfl⟩
    have g1 := F.called_set.init.lookup
    have g2 := F.called_set.init.bind (.ref S)
    repeat (any_goals (first | assumption | wp_step))
    refine codeAny_mono (codeAny_call_builtin (R := wants (fun r s₂ => r = .none ∧ ∃ h' tk L es ep t, s₂ = { s with heap := h', toks := tk } ∧ Lies kd h' S L es ep t ∧ Held ks ks.length L ∧ (∀ b o, s.heap.get? b = some o → h'.get? b = some o)) E)
      F.called_set.init.plain F.entry_set_init (check_set_init_1 ty ?_)) fun r₂ s₂ hr₂ => ?_
    · obtain ⟨ol, hol, hcl, nl, hdl⟩ := hl
      obtain ⟨cl, di, da, sl⟩ := ol
      simp only at hcl hdl
      subst hcl hdl
      have ol1 : (s.heap.push (newSet w)).get? l = some { cls := .type "list", dict := di, data := .seq items nl, slots := sl } := Heap.get?_push_of_some _ hol
      have l1 : (s.heap.push (newSet w)).IsList l items := ⟨_, ol1, rfl, nl, rfl⟩
      have b1 := F.sub_list_set
      have b2 := F.sub_list_frozenset
      have b3 : (Value.type "list" == Value.type "dict") = false := by decide
      unfold Builtin.«set.__init__» noKeywords Builtin.Frozenset.updateFrom
      generalize hPI : pyIter = PI
      wp_walk
      subst hPI
      refine wpAny_pyIter_list l1 (wpAny_bind (wpAny_runValue ?_))
      have sz : (s.heap.push (newSet w)).objs.size = S + 1 := by rw [size_push', hS]
      have vals : ∀ (i : Nat) (v : Value), items[i]? = some v → ∃ r, ks[i]? = some r ∧ v = .ref r.1 := fun i v e => by
        have e2 : (ks.map fun r => Value.ref r.1)[i]? = some v := by rw [← hi, Array.getElem?_toList]; exact e
        rw [List.getElem?_map] at e2
        cases h : ks[i]? with
        | none => rw [h] at e2; cases e2
        | some r => rw [h] at e2; exact ⟨r, rfl, (Option.some.inj e2).symm⟩
      refine all_in M ((Walks.list (A := A.in1.in1.in1) (by simp [hh]) (s.heap.push (newSet w)).objs.size l (by rw [sz]; exact Nat.ne_of_lt (Nat.lt_succ_of_lt lS)) items).toS) S
        (by rw [sz]; simp; exact Nat.ne_of_gt lS) ks hn few vals s.heap mem (free S (Nat.le_refl _)) (fun b hb => free b (by rw [List.mem_singleton.mp hb, sz]; exact Nat.le_succ _)) hu s.gens s.drawn s.os ?fin
        (items.size - 0) 0 _ rfl (Nat.zero_le _) ⟨⟨_, Heap.get?_push_size _ rfl, rfl, rfl⟩, l1.push _⟩ (fun b o e => Heap.get?_push_of_some _ (Heap.get?_push_of_some _ e))
        ⟨[], #[], 0, _, lies_new (Heap.get?_push_of_some _ at0), ⟨fun r z => (by cases z), fun r z => (by simp at z), Nat.le_refl _⟩⟩ rfl rfl rfl
      case fin =>
        intro s' L es ep t T H keep eg ed eo
        obtain ⟨h', g, d, tk, os⟩ := s'
        simp only at eg ed eo
        subst eg ed eo
        refine wpAny_pure ?_
        show wpAny _ _ (ret Value.none) _ _ _
        exact wpAny_pure ⟨rfl, h', tk, L, es, ep, t, rfl, T, hn ▸ H, keep⟩
    · match r₂, hr₂ with
      | .error e, hr₂ => exact hr₂
      | .ok (.ret r), hr₂ =>
        obtain ⟨rfl, h', tk, L, es, ep, t, rfl, T, H, keep⟩ := hr₂
        repeat (any_goals (first | assumption | wp_step))
        exact q _ _ _ _ _ _ T H keep
end
end Tq

/-! Tuples of texts in their order; sorted(a set of them). -/
namespace Tq
open PySem PySem.Spec PyProof.Rows L2
/-- the signs of texts -/
abbrev sg1 (x : Str) : List Nat := x.cps.toList
def sg (ks : List Str) : List (List Nat) := ks.map sg1
theorem sg1_inj {x y : Str} (e : sg1 x = sg1 y) : x = y := by
  obtain ⟨a⟩ := x; obtain ⟨b⟩ := y
  exact congrArg Str.mk (Array.toList_inj.mp e)
theorem sg_inj : ∀ {a b : List Str}, sg a = sg b → a = b
  | [], [], _ => rfl
  | [], _ :: _, e => nomatch e
  | _ :: _, [], e => nomatch e
  | x :: a, y :: b, e => by
    injection e with e1 e2
    rw [sg1_inj e1, sg_inj e2]
/-- the order of tuples of texts -/
def tlt (a b : List Str) : Bool := decide (sg a < sg b)
theorem tlt_irr (a : List Str) : tlt a a = false := decide_eq_false (List.lt_irrefl _)
theorem tlt_tr {a b c : List Str} (h : tlt a b = true) (k : tlt b c = true) : tlt a c = true :=
  decide_eq_true (List.lt_trans (of_decide_eq_true h) (of_decide_eq_true k))
theorem tlt_eq {a b : List Str} (h : tlt a b = false) (k : tlt b a = false) : a = b :=
  sg_inj (List.le_antisymm (List.not_lt.mp (of_decide_eq_false k)) (List.not_lt.mp (of_decide_eq_false h)))
theorem tlt_asym {a b : List Str} (h : tlt a b = true) : tlt b a = false := by
  cases e : tlt b a
  · rfl
  · have := tlt_tr h e; rw [tlt_irr] at this; cases this
theorem swo_t (k : Value → List Str) : SrtO.Swo fun v u => tlt (k v) (k u) := by
  refine ⟨fun x y h => tlt_asym h, fun x y z h1 h2 => ?_⟩
  cases e : tlt (k z) (k x)
  · rfl
  · by_cases q : k x = k y
    · rw [q, h2] at e; cases e
    · cases e2 : tlt (k x) (k y)
      · exact absurd (tlt_eq e2 h1) q
      · have := tlt_tr e e2; rw [h2] at this; cases this
section
variable {P : Program} {w : World} {A : Around} {E : Value → Shared → Prop} {s : Shared}
abbrev sk (P : Program) (w : World) : PySem.KeyKind P w Str := PySem.strKind P w
abbrev IsX (P : Program) (w : World) (h : Heap) (ks : List Str) (a : Addr) : Prop := IsTupleKey (sk P w) h ks a
/-- one text is below another -/
theorem below (b : Bool) {x y : Str} {t u : Tok} {Q : Bool → Shared → Prop} (q : Q (decide (sg1 x < sg1 y)) s) : wpAny (model P w) A (oneLt' b (.str x t) (.str y u)) Q E s := by
  cases b with
  | true => exact oneLt_str q
  | false => exact PySem.W.kat_one _ _ (PyProof.Rows.lt_str (Q := PySem.W.BoolBack Q) q)
theorem lex {b : Bool} {xs ys : List Value} {ns ms : List Str} {Q : Bool → Shared → Prop} (i : Nat) (hx : ItemsAre (sk P w) ns xs) (hy : ItemsAre (sk P w) ms ys) (q : Q (tlt ns ms) s) :
    PySem.W.KatLex P w A b (decide (xs.length < ys.length)) Q (xs.zip ys) i s := by
  induction hx generalizing ys ms i with
  | nil =>
    cases hy with
    | nil => exact PySem.W.kat_nil q
    | cons _ _ => exact PySem.W.kat_nil q
  | @cons x v ns xs h1 _ ih =>
    cases hy with
    | nil => exact PySem.W.kat_nil q
    | @cons y u ms ys h2 hy =>
      obtain ⟨t, rfl⟩ := Value.isStrOf_shape h1
      obtain ⟨t', rfl⟩ := Value.isStrOf_shape h2
      refine PySem.W.kat_cons (wpAny_eqBool_str ?_)
      by_cases e : x = y
      · subst e
        rw [decide_eq_true rfl]
        refine PySem.W.kat_yes ?_
        have d : tlt (x :: ns) (x :: ms) = tlt ns ms := decide_eq_decide.mpr ⟨fun z => (List.cons_lt_cons_iff.mp z).elim (fun z => absurd z (List.lt_irrefl _)) (·.2), fun z => List.cons_lt_cons_iff.mpr (.inr ⟨rfl, z⟩)⟩
        rw [d] at q
        have d2 : decide ((Value.str x t :: xs).length < (Value.str x t' :: ys).length) = decide (xs.length < ys.length) := by simp
        rw [d2]
        exact ih (i + 1) hy q
      · rw [decide_eq_false e]
        refine PySem.W.kat_no (below _ ?_)
        have d : tlt (x :: ns) (y :: ms) = decide (sg1 x < sg1 y) := decide_eq_decide.mpr ⟨fun z => (List.cons_lt_cons_iff.mp z).elim id (fun z => absurd (sg1_inj z.1) e), fun z => List.cons_lt_cons_iff.mpr (.inl z)⟩
        rw [d] at q
        exact q
/-- what stands in a list that is to be sorted -/
def AllX (P : Program) (w : World) (h : Heap) (vs : List Value) (k : Value → List Str) : Prop := ∀ v ∈ vs, k v ≠ [] ∧ ∃ a, v = .ref a ∧ IsX P w h (k v) a
theorem heads {h : Heap} {k : Value → List Str} : ∀ vs : List Value, AllX P w h vs k → ∃ fs, PySem.W.KatTups h vs fs ∧ fs.length = vs.length ∧ ∀ f ∈ fs, ∃ x t, f = Value.str x t
  | [], _ => ⟨[], PySem.W.KatTups.nil, rfl, fun _ z => nomatch z⟩
  | v :: vs, al => by
    obtain ⟨fs, r, hl, hf⟩ := heads vs fun u hu => al u (.tail _ hu)
    obtain ⟨ne, a, rfl, o, xs, n, ho, hc, hd, hi⟩ := al v List.mem_cons_self
    generalize hz : k (.ref a) = ks at hi ne
    generalize e : xs.toList = l at hi
    cases hi with
    | nil => exact absurd rfl ne
    | @cons x f _ _ h1 _ =>
      obtain ⟨t, rfl⟩ := Value.isStrOf_shape h1
      refine ⟨_ :: fs, PySem.W.KatTups.cons ho hc hd (f := .str x t) ?_ r, by simp [hl], fun g hg => ?_⟩
      · rw [← Array.getElem?_toList, e]; rfl
      · exact (List.mem_cons.mp hg).elim (fun z => ⟨x, t, z⟩) (hf g)
theorem sortable {a : Addr} {vs : List Value} {k : Value → List Str} (h0 : 0 < vs.length) (al : AllX P w s.heap vs k) (ha : ∀ o, s.heap.get? a = some o → o.cls ≠ .type "tuple") : SrtO.SortableO P w A s a vs fun v u => tlt (k v) (k u) := by
  intro h' keep
  have al' : AllX P w h' vs k := fun v hv => by
    obtain ⟨ne, b, e, x⟩ := al v hv
    obtain ⟨o, xs, n, ho, hc, r⟩ := x
    exact ⟨ne, b, e, o, xs, n, keep b o (fun z => ha o (z ▸ ho) hc) ho, hc, r⟩
  obtain ⟨fs, f1, f2, f3⟩ := heads vs al'
  refine ⟨tuples' true, fun Q E q => PySem.W.kat_kind (T := .type "str") f1 (by omega) (fun f hf => ?_) rfl ?_, fun p q hp hq => ?_⟩
  · obtain ⟨x, t, rfl⟩ := f3 f hf
    exact PySem.W.Looks.now
  · rw [show (Value.type "str" != Value.type "tuple") = true by decide]; exact q
  · obtain ⟨_, a1, e1, o1, x1, n1, ho1, _, hd1, hi1⟩ := al' _ hp
    obtain ⟨_, a2, e2, o2, x2, n2, ho2, _, hd2, hi2⟩ := al' _ hq
    show wpAny (model P w) A (keyLt' (tuples' true) p.1 q.1) (fun r s' => s' = _ ∧ r = tlt (k p.1) (k q.1)) (fun _ _ => False) _
    generalize k p.1 = k1 at hi1 ⊢
    generalize k q.1 = k2 at hi2 ⊢
    rw [e1, e2]
    refine PySem.W.kat_lt ho1 hd1 ho2 hd2 ?_
    have := lex (P := P) (w := w) (A := A) (s := { s with heap := h' }) (b := true) (Q := fun r s' => s' = { s with heap := h' } ∧ r = tlt k1 k2) 0 hi1 hi2 ⟨rfl, rfl⟩
    simpa using this
end
end Tq

/-! sorted(a set of tuples of texts), and both rules over the abstract heap. -/
namespace Tq
open PySem PySem.Spec PyProof.Rows L2
/-- the key that stands at an address -/
def keyAt (L : List (Row Str)) : Value → List Str
  | .ref b => ((L.find? fun r => decide (r.1 = b)).map Prod.snd).getD []
  | _ => []
def adrOf : Value → Addr
  | .ref b => b
  | _ => 0
section
variable {P : Program} {w : World} {A : Around} {E : Value → Shared → Prop} {s : Shared}
theorem keyAt_of {h : Heap} {L : List (Row Str)} (mem : Are (sk P w) h L) {r : Row Str} (hr : r ∈ L) : keyAt L (.ref r.1) = r.2 := by
  show ((L.find? fun q => decide (q.1 = r.1)).map Prod.snd).getD [] = r.2
  cases e : L.find? fun q => decide (q.1 = r.1) with
  | none => exact absurd (List.find?_eq_none.mp e r hr) (by simp)
  | some q =>
    have h1 : q.1 = r.1 := of_decide_eq_true (List.find?_some (p := fun q : Row Str => decide (q.1 = r.1)) e)
    have h2 := mem q (List.mem_of_find?_eq_some e)
    rw [h1] at h2
    exact h2.inj (mem r hr)
theorem sorted_set {a : Addr} {L : List (Row Str)} {es : Array (Int × Value)} {ep : Nat} {t : SetTable} {Q : Value → Shared → Prop} (T : Lies (sk P w) s.heap a L es ep t) (mem : Are (sk P w) s.heap L) (ne : ∀ r ∈ L, r.2 ≠ []) (hh : A.handled = none)
    (q : ∀ s' p (out : Array Value) (c : Nat) (L' : List (Row Str)), (∀ b o, s.heap.get? b = some o → s'.heap.get? b = some o) → s'.gens = s.gens → s'.os = s.os → s.heap.objs.size ≤ p → s'.heap.get? p = some (seqObj "list" out c) →
      out.toList = L'.map (fun r => Value.ref r.1) → L'.Perm L → (L'.map Prod.snd).Pairwise (fun x y => tlt x y = true) → Q (.ref p) s') :
    wpAny (model P w) A (call (.builtin "sorted") [.ref a]) Q E s := by
  obtain ⟨o, ho, hex, hd⟩ := T.obj
  refine Calls.call_function_entry kind_sorted plain_sorted entry_sorted (args_sorted1 _) ?_
  unfold Builtin.«sorted»
  refine wpAny_bind (m := checkCount "sorted" 1 1 _) (wpAny_pure ?_)
  refine wpAny_bind (collect_set (A := A.in1) hh ⟨o, ho, hex.1, hd⟩ T.ok (by rw [len_of T.ents]; have := T.few; unfold scanBound; omega) T.tab.ris T.led fun s1 vs k1 hz g1 o1 pm => ?_)
  have pm : vs.Perm (L.map fun r => Value.ref r.1) := by rw [T.ents, List.map_map] at pm; exact pm
  have few : vs.length ≤ sizeLine := by rw [pm.length_eq, List.length_map, sizeLine_eq]; have := T.few; omega
  refine wpAny_bind (wpAny_newList ?_ few)
  have oL : (s1.heap.push (seqObj "list" vs.toArray 0)).get? s1.heap.objs.size = some (seqObj "list" vs.toArray 0) := Heap.get?_push_size _ rfl
  have al : AllX P w (s1.heap.push (seqObj "list" vs.toArray 0)) vs (keyAt L) := fun v hv => by
    obtain ⟨r, hr, rfl⟩ := List.mem_map.mp (pm.mem_iff.mp hv)
    rw [keyAt_of mem hr]
    exact ⟨ne r hr, _, rfl, same_at (mem r hr) fun u e => Heap.get?_push_of_some _ (k1 _ u e)⟩
  refine wpAny_bind (wpAny_holding (wpAny_call_entry slot_list_sort ⟨_, oL, rfl⟩ entry_list_sort (SrtO.list_sort_ord (s := { s1 with heap := s1.heap.push (seqObj "list" vs.toArray 0) }) (swo_t (keyAt L)) oL few
    (fun h2 => sortable (by omega) al fun u e => ?_) fun out hs hb => ⟨_, rfl, ?_⟩) (args_list_sort _)))
  · rw [oL] at e
    cases e
    exact fun c => absurd (Value.type.inj c) (by decide)
  · obtain ⟨c, hc⟩ := sortedHeap_at (vs := vs) (out := out.toArray) oL
    have po := hb.perm.trans pm
    have back : ∀ r ∈ L, (adrOf (Value.ref r.1), keyAt L (.ref r.1)) = r := fun r hr => by rw [keyAt_of mem hr]; rfl
    have pL : (out.map fun v => (adrOf v, keyAt L v)).Perm L := by
      have := po.map fun v => (adrOf v, keyAt L v)
      rw [List.map_map] at this
      rwa [show L.map ((fun v => (adrOf v, keyAt L v)) ∘ fun r => Value.ref r.1) = L by
        conv => rhs; rw [← List.map_id L]
        exact List.map_congr_left back] at this
    refine wpAny_pure ⟨_, rfl, q _ _ out.toArray c (out.map fun v => (adrOf v, keyAt L v)) (fun b u e => ?_) g1 o1 hz hc ?_ pL ?_⟩
    · have e1 := k1 b u e
      have lt := Heap.lt_size e1
      show (sortedHeap (s1.heap.push (seqObj "list" vs.toArray 0)) s1.heap.objs.size vs out.toArray).get? b = some u
      rw [sortedHeap_old (Nat.ne_of_lt lt) (by rw [size_push']; exact Nat.lt_succ_of_lt lt)]
      exact Heap.get?_push_of_some _ e1
    · rw [List.map_map]
      show out = _
      conv => lhs; rw [← List.map_id out]
      refine List.map_congr_left fun v hv => ?_
      obtain ⟨r, hr, rfl⟩ := List.mem_map.mp (po.mem_iff.mp hv)
      rfl
    · have nd : ((out.map fun v => (adrOf v, keyAt L v)).map Prod.snd).Nodup := (pL.map _).nodup_iff.mpr T.dif
      rw [List.map_map] at nd ⊢
      rw [List.nodup_iff_pairwise_ne, List.pairwise_map] at nd
      rw [List.pairwise_map]
      refine (List.pairwise_and_iff.mpr ⟨hs, nd⟩).imp fun {x y} z => ?_
      cases e : tlt (keyAt L x) (keyAt L y)
      · exact absurd (tlt_eq e z.1) z.2
      · exact e
end
/-! ### over the abstract heap -/
def SetX (P : Program) (w : World) (a : Addr) (L : List (Row Str)) : HO := .ext fun h => ∃ es ep t, Lies (sk P w) h a L es ep t
theorem setX_new {P : Program} {w : World} {H : Hp} {h : Heap} {a : Addr} {L : List (Row Str)} (R : ∃ es ep t, Lies (sk P w) h a L es ep t) : ObjOk P w H h a (SetX P w a L) := by
  have ⟨es, ep, t, T⟩ := R
  have ⟨o, ho, _⟩ := T.obj
  exact ⟨R, ⟨o, ho⟩, fun h1 h2 ⟨es, ep, t, T⟩ k => ⟨es, ep, t, T.on k⟩⟩
theorem items_strs {P : Program} {w : World} : ∀ {k : List Str} {us : List Value}, Vals (k.map V.str) us → ItemsAre (sk P w) k us
  | [], _, .nil => .nil
  | x :: k, _, .cons r t => by
    obtain ⟨u, rfl⟩ := r
    exact .cons (beq_self_eq_true x) (items_strs t)
theorem refs_of {κ : Type} : ∀ {ks : List (Row κ)} {us : List Value}, Vals (ks.map fun r => V.ref r.1) us → us = ks.map fun r => Value.ref r.1
  | [], _, .nil => rfl
  | r :: ks, _, .cons e t => by cases e; rw [refs_of t]; rfl
theorem of_refs {κ : Type} : ∀ ks : List (Row κ), Vals (ks.map fun r => V.ref r.1) (ks.map fun r => Value.ref r.1)
  | [] => .nil
  | _ :: ks => .cons rfl (of_refs ks)
section
variable {X : Cx}
theorem isX_of {pins : List (Addr × Obj)} {σ : L2.St} {H : Hp} {s : Shared} {b : Addr} {k : List Str} (I : Inv X pins σ H s) (h : SqT X.K H b (k.map V.str)) : IsX X.prog X.w s.heap k b := by
  obtain ⟨its, r, ⟨o, ho, hc, n, hd⟩, _⟩ := I.tuple h
  exact ⟨o, its.toArray, n, ho, hc, hd, by simpa using items_strs r⟩
/-- these are tuples of these texts -/
abbrev TupsX (K : PySem.W.Frag) (H : Hp) (ks : List (Row Str)) : Prop := ∀ r ∈ ks, SqT K H r.1 (r.2.map V.str)
/-- set(l) -/
def rSetX (K : PySem.W.Frag) (P : Program) (w : World) : List V → Hp → VK → Prop := fun xs H Q => ∃ (l : Addr) (ks : List (Row Str)), xs = [V.ref l] ∧ SqL K H l (ks.map fun r => V.ref r.1) ∧ TupsX K H ks ∧ ks.length < 64 ∧
  ∀ a L, H a = none → (∀ r ∈ L, r ∈ ks) → (∀ r ∈ ks, r.2 ∈ L.map Prod.snd) → Q (.ref a) (upd H a (SetX P w a L))
theorem cr_setX (hc : X.calm = true) (hu : X.A.units + 64 < cLine) : CallR X (.type "set") (rSetX X.K X.prog X.w) := by
  intro pins s σ H xs us Q I r h
  obtain ⟨l, ks, rfl, hl, hk, few, q⟩ := h
  rw [Vals.ref1 r]
  obtain ⟨its, rv, pl, _⟩ := I.list hl
  refine call_set (P := X.prog) (w := X.w) (mild_str _ _) ks (I.ok.hd hc) pl.isList (by simpa using refs_of rv) (fun r hr => isX_of I (hk r hr)) few (by omega) fun h' tk L es ep t T Hd keep => ?_
  refine ⟨.ref s.heap.objs.size, upd H s.heap.objs.size (SetX X.prog X.w s.heap.objs.size L), I.laid (t' := tk) keep (Nat.le_refl _) (setX_new ⟨es, ep, t, T⟩), rfl, q _ L (I.hok.fresh (Nat.le_refl _)) Hd.of fun r hr => Hd.to r ?_⟩
  rw [List.take_length]; exact hr
/-- sorted(a set) -/
def rSortX (K : PySem.W.Frag) (P : Program) (w : World) : List V → Hp → VK → Prop := fun vs H Q => ∃ (a : Addr) (L : List (Row Str)), vs = [V.ref a] ∧ H a = some (SetX P w a L) ∧ TupsX K H L ∧ (∀ r ∈ L, r.2 ≠ []) ∧
  ∀ (L' : List (Row Str)) (p : Addr), L'.Perm L → L'.length < 64 → (L'.map Prod.snd).Pairwise (fun x y => tlt x y = true) → H p = none → Q (.ref p) (upd H p (.lst (L'.map fun r => V.ref r.1)))
theorem cr_sortX (hc : X.calm = true) : CallR X (.builtin "sorted") (rSortX X.K X.prog X.w) := by
  intro pins s σ H vs us Q I r h
  obtain ⟨a, L, rfl, ha, hk, ne, q⟩ := h
  obtain ⟨es, ep, t, T⟩ : ∃ es ep t, Lies (sk X.prog X.w) s.heap a L es ep t := (I.hok a _ ha).1
  rw [Vals.ref1 r]
  refine sorted_set T (fun r hr => isX_of I (hk r hr)) ne (I.ok.hd hc) fun s' p out c L' keep g o hp hg eo pm pw => ?_
  have few : L'.length < 64 := by rw [pm.length_eq]; exact T.few
  have hn : H p = none := I.hok.fresh hp
  have J : Inv X pins σ (upd H p (.lst (L'.map fun r => V.ref r.1))) { s with heap := s'.heap, gens := s'.gens, drawn := s'.drawn, toks := s'.toks } :=
    I.call (ch := []) (Un.laid keep hp hn) (I.hok.laid keep hp ⟨by rw [List.length_map, sizeLine_eq]; omega, out.toList, c, by rw [eo]; exact of_refs L', hg⟩) (by rw [g]; exact I.bare) (fun _ z => nomatch z)
  obtain ⟨h1, g1, d1, t1, o1⟩ := s'
  simp only at o
  subst o
  exact ⟨.ref p, _, J, rfl, q L' p pm few pw hn⟩
end
end Tq

/-! Sets of texts: set(a list of texts), sorted of it. -/
namespace Tq
open PySem PySem.Spec PyProof.Rows L2
def keyS (e : Int × Value) : Str := match e.2 with | .str k _ => k | _ => Str.empty
def IsS (P : Program) (w : World) (e : Int × Value) : Prop := ∃ k u, e = ((sk P w).hash k, Value.str k u)
structure Txts (P : Program) (w : World) (h : Heap) (a : Addr) (L : List Str) (es : Array (Int × Value)) (ep : Nat) (t : SetTable) : Prop where
  obj : ∃ o, h.get? a = some o ∧ o.ExactSet ∧ o.data = .set es ep t
  each : ∀ e ∈ es.toList, IsS P w e
  keys : es.toList.map keyS = L
  dif : L.Nodup
  few : es.size < scanBound
  fit : t.fits es.size = true
  ris : Ris t.place.toList
  led : w.params.followText "set-order" = true ∨ t.led = true
section
variable {P : Program} {w : World} {A : Around} {E : Value → Shared → Prop} {s : Shared} {a : Addr} {L : List Str} {es : Array (Int × Value)} {ep : Nat} {t : SetTable}
theorem Txts.on {h h' : Heap} (T : Txts P w h a L es ep t) (k : ∀ o, h.get? a = some o → h'.get? a = some o) : Txts P w h' a L es ep t :=
  let ⟨o, ho, r⟩ := T.obj
  ⟨⟨o, k o ho, r⟩, T.each, T.keys, T.dif, T.few, T.fit, T.ris, T.led⟩
theorem Txts.len (T : Txts P w s.heap a L es ep t) : es.size = L.length := by rw [← T.keys, List.length_map, Array.length_toList]
theorem isS_is {e : Int × Value} (x : IsS P w e) (k : Str) : (sk P w).is k e.2 = true ↔ keyS e = k := by
  obtain ⟨j, u, rfl⟩ := x
  show (j == k) = true ↔ j = k
  exact beq_iff_eq
theorem each_elems {l : List (Int × Value)} (x : ∀ e ∈ l, IsS P w e) : ElemsOf (sk P w) l := fun e he => by
  obtain ⟨j, u, rfl⟩ := x e he
  exact ⟨⟨j, strKind_is _ _ _ _, rfl⟩, rfl⟩
/-- what is said of the set behind one more text -/
abbrev Onto (k : Str) (L L' : List Str) : Prop := (k ∈ L ∧ L' = L) ∨ (k ∉ L ∧ L'.Perm (k :: L))
theorem laid_tail {g : Bool → Sem Unit} (hg : ∀ (b : Bool) (s₁ : Shared) (Q' : Unit → Shared → Prop), Q' () s₁ → wpAny (model P w) A (g b) Q' E s₁) {o : Obj} (ho : s.heap.get? a = some o) (hex : o.ExactSet) (hd : o.data = .set es ep t)
    {es1 : Array (Int × Value)} {t2 : SetTable} (x : ∀ e ∈ es1.toList, IsS P w e) (nd : (es1.toList.map keyS).Nodup) (hb : es1.size < scanBound) (hf : t2.fits es1.size = true) (hr : Ris t2.place.toList) (hl : w.params.followText "set-order" = true ∨ t2.led = true)
    {was : Bool} {R : Option Bool → Shared → Prop} (q : ∀ h' L' es' ep' t', Heap.SameBut a s.heap h' → Txts P w h' a L' es' ep' t' → L'.Perm (es1.toList.map keyS) → R (some true) { s with heap := h' }) :
    wpAny (model P w) A (do
        storeSet a es1 t2
        if (!was && t2.tooFull) = true then do
            g (relayAll t2 es1 (SetTable.grown es1.size)).2.2
            storeSet a (relayAll t2 es1 (SetTable.grown es1.size)).1 (relayAll t2 es1 (SetTable.grown es1.size)).2.1
            pure (some true)
          else pure (some true)) R E s := by
  have at1 := store_at (es' := es1) (t' := t2) ho hd
  have b1 := Heap.SameBut.update s.heap a (Obj.putSet es1 t2)
  refine wpAny_bind (wpAny_storeSet_of ho hd ?_ (fits_of_scanBound hb))
  split
  · have pm := relayAll_perm t2 es1 (SetTable.grown es1.size)
    have c1 := relayAll_fits t2 es1 (SetTable.grown es1.size)
    have c2 := relayAll_ris t2 es1 (SetTable.grown es1.size)
    have c3 := relayAll_led t2 es1 (SetTable.grown es1.size)
    generalize relayAll t2 es1 (SetTable.grown es1.size) = Z at pm c1 c2 c3 ⊢
    obtain ⟨es2, t3, gv⟩ := Z
    dsimp only at pm c1 c2 c3 ⊢
    have sz : es2.size < scanBound := by rw [← Array.length_toList, pm.length_eq, Array.length_toList]; exact hb
    refine wpAny_bind (hg _ _ _ (wpAny_bind (wpAny_storeSet_of at1 rfl ?_ (fits_of_scanBound sz))))
    refine wpAny_pure (q _ (es2.toList.map keyS) es2 _ t3 (b1.trans (Heap.SameBut.update _ a _)) ⟨⟨_, store_at at1 rfl, hex, rfl⟩, fun e he => x e (pm.mem_iff.mp he), rfl, (pm.map keyS).nodup_iff.mpr nd, sz, c1, c2, hl.imp id fun z => by rw [c3]; exact z⟩ (pm.map keyS))
  · exact wpAny_pure (q _ _ es1 _ t2 b1 ⟨⟨_, at1, hex, rfl⟩, x, rfl, nd, hb, hf, hr, hl⟩ (List.Perm.refl _))
theorem txt_in {k : Str} {u : Tok} {Q : Bool → Shared → Prop} (T : Txts P w s.heap a L es ep t) (room : L.length + 1 < scanBound)
    (q : ∀ b h' L' es' ep' t', Heap.SameBut a s.heap h' → Txts P w h' a L' es' ep' t' → Onto k L L' → Q b { s with heap := h' }) : wpAny (model P w) A (setAddHashed a (.str k u) ((sk P w).hash k)) Q E s := by
  have ky : (sk P w).is k (.str k u) = true := strKind_is _ _ _ _
  have sc : (Value.str k u).scannable = true := rfl
  have el : ElemsOf (sk P w) es.toList := each_elems T.each
  obtain ⟨o, ho, hex, hd⟩ := T.obj
  unfold setAddHashed setAddHashedIn
  refine wpAny_holding (wpAny_bind (wpAny_setState_of ho hd T.fit ?_))
  dsimp only
  rw [byScan_of sc T.few el]
  simp only [↓reduceIte]
  unfold setAddByScan
  refine wpAny_bind (wpAny_bind (wpAny_rule (wpAny_bind (wpAny_setScan_of ky ho hd T.fit el ?_))))
  cases fi : List.findIdx? (fun e => (sk P w).is k e.2) es.toList with
  | some j =>
    dsimp only
    obtain ⟨hj, pj, _⟩ := List.findIdx?_eq_some_iff_getElem.mp fi
    have hk : k ∈ L := by
      rw [← T.keys, ← (isS_is (T.each _ (List.getElem_mem hj)) k).mp pj]
      exact List.mem_map_of_mem (List.getElem_mem hj)
    exact wpAny_pure (wpAny_pure (q _ s.heap L es ep t (Heap.SameBut.refl a s.heap) T (.inl ⟨hk, rfl⟩)))
  | none =>
    dsimp only
    have hk : k ∉ L := fun z => by
      rw [← T.keys] at z
      obtain ⟨e, he, ee⟩ := List.mem_map.mp z
      have c := List.findIdx?_eq_none_iff.mp fi e he
      rw [(isS_is (T.each e he) k).mpr ee] at c
      cases c
    have gw : ∀ (b : Bool) {s₁ : Shared} {Q' : Unit → Shared → Prop}, Q' () s₁ → wpAny (model P w) A (match b with | true => rule "set.scan.the-table-gave-way" | false => pure ()) Q' E s₁ :=
      fun b _ _ z => by cases b <;> first | exact wpAny_pure z | exact wpAny_rule z
    have pm := layNew_perm t es ((sk P w).hash k) (.str k u)
    have c1 := layNew_fits t es ((sk P w).hash k) (.str k u)
    have c2 := layNew_ris t es ((sk P w).hash k) (.str k u) T.ris
    have c3 := layNew_led t es ((sk P w).hash k) (.str k u)
    generalize layNew t es ((sk P w).hash k) (.str k u) = Z at pm c1 c2 c3 ⊢
    obtain ⟨es1, t1, was, gv⟩ := Z
    dsimp only at pm c1 c2 c3 ⊢
    rw [Array.toList_push] at pm
    have pc : es1.toList.Perm (((sk P w).hash k, Value.str k u) :: es.toList) := pm.trans (List.perm_append_singleton _ _)
    have pk : (es1.toList.map keyS).Perm (k :: L) := by have := pc.map keyS; rw [List.map_cons, T.keys] at this; exact this
    have x1 : ∀ e ∈ es1.toList, IsS P w e := fun e he => (List.mem_cons.mp (pc.mem_iff.mp he)).elim (fun z => ⟨k, u, z⟩) (T.each e)
    have nd : (es1.toList.map keyS).Nodup := pk.nodup_iff.mpr (List.nodup_cons.mpr ⟨hk, T.dif⟩)
    have hb : es1.size < scanBound := by
      have e := pk.length_eq
      rw [List.length_map, Array.length_toList, List.length_cons] at e
      rw [e]; exact room
    have ld : w.params.followText "set-order" = true ∨ t1.led = true := T.led.imp id fun z => by rw [c3]; exact z
    have fin : ∀ h' L' es' ep' t', Heap.SameBut a s.heap h' → Txts P w h' a L' es' ep' t' → L'.Perm (es1.toList.map keyS) → Q true { s with heap := h' } := fun h' L' es' ep' t' sb T' p => q _ h' L' es' ep' t' sb T' (.inr ⟨hk, p.trans pk⟩)
    refine wpAny_bind (gw _ ?_)
    split
    · refine wpAny_bind ?_
      rw [hashByValue_scannable 8 sc]
      refine wpAny_pure ?_
      refine laid_tail ?_ ho hex hd x1 nd hb ?_ ?_ ?_ ?_
      · intro b s₁ Q' z; cases b <;> first | exact wpAny_pure z | exact wpAny_rule z
      · first | (split <;> first | exact c1 | exact SetTable.fits_plain_off c1) | exact c1
      · first | (split <;> exact c2) | exact c2
      · first | (split <;> exact ld) | exact ld
      · intro h' L' es' ep' t' sb T' p; dsimp only; exact wpAny_pure (fin h' L' es' ep' t' sb T' p)
    · refine wpAny_bind (wpAny_pure ?_)
      simp only [↓reduceIte]
      refine laid_tail ?_ ho hex hd x1 nd hb c1 c2 ld ?_
      · intro b s₁ Q' z; cases b <;> first | exact wpAny_pure z | exact wpAny_rule z
      · intro h' L' es' ep' t' sb T' p; dsimp only; exact wpAny_pure (fin h' L' es' ep' t' sb T' p)
/-- what the set holds behind so many texts -/
structure HeldS (ks : List Str) (i : Nat) (L : List Str) : Prop where
  mem : ∀ k, k ∈ L ↔ k ∈ ks.take i
  le : L.length ≤ i
theorem HeldS.next {ks L L' : List Str} {i : Nat} {k : Str} (h : HeldS ks i L) (e : ks[i]? = some k) (c : Onto k L L') : HeldS ks (i + 1) L' := by
  have tk : ks.take (i + 1) = ks.take i ++ [k] := by rw [List.take_add_one, e]; rfl
  rcases c with ⟨c, rfl⟩ | ⟨_, pm⟩
  · refine ⟨fun j => ?_, Nat.le_succ_of_le h.le⟩
    rw [tk, List.mem_append, List.mem_singleton, ← h.mem]
    exact ⟨.inl, fun z => z.elim id fun z => z ▸ c⟩
  · refine ⟨fun j => ?_, by rw [pm.length_eq]; exact Nat.succ_le_succ h.le⟩
    rw [pm.mem_iff, List.mem_cons, tk, List.mem_append, List.mem_singleton, h.mem]
    exact Or.comm
theorem all_txt {I : Addr} {fp wr : List Addr} {G : Array GenState → Array GenState → Prop} {n : Nat} {Pv : Nat → Value → Prop} {St : Nat → Shared → Prop} {R : Result → Shared → Prop} (W : WalksS P w A.in1 I fp wr G n Pv St)
    (S : Addr) (out : S ∉ fp) (ks : List Str) (hn : n = ks.length) (few : ks.length + 1 < scanBound) (val : ∀ i v, Pv i v → ∃ k u, ks[i]? = some k ∧ v = .str k u) (h0 : Heap) (S0 : h0.get? S = none) (w0 : ∀ b ∈ wr, h0.get? b = none)
    (g0 : Array GenState) (d0) (o0)
    (fin : ∀ s' L es ep t, Txts P w s'.heap S L es ep t → HeldS ks n L → (∀ b o, h0.get? b = some o → s'.heap.get? b = some o) → G g0 s'.gens → s'.drawn = d0 → s'.os = o0 → R (.ok (.ret .none)) s') (k : Nat) :
    ∀ (i : Nat) (s : Shared), n - i = k → i ≤ n → St i s → (∀ b o, h0.get? b = some o → s.heap.get? b = some o) → (∃ L es ep t, Txts P w s.heap S L es ep t ∧ HeldS ks i L) → G g0 s.gens → s.drawn = d0 → s.os = o0 →
      codeAny (model P w) A (.builtin "set.update.loop" ⟨[.ref S, .ref I], []⟩) R s := by
  have Sw : S ∉ wr := fun z => out (W.sub _ z)
  induction k with
  | zero =>
    intro i s hk hi st keep ⟨L, es, ep, t, T, H⟩ eg ed eo
    obtain rfl : i = n := by omega
    refine codeAny_builtin F.entry_set_update_loop ?_
    rw [Around.under_plainId F.plain_set_update_loop _]
    show wpAny _ A.in1 (pyNext (.ref I) >>= _) _ _ s
    refine wpAny_bind (W.done s _ _ st fun s' mv => ?_)
    show wpAny _ A.in1 (ret Value.none) _ _ s'
    refine wpAny_pure (fin s' L es ep t (T.on fun o e => mv.heap S o Sw e) H (fun b o e => mv.heap b o (fun z => ?_) (keep b o e)) (W.gtrans _ _ _ eg mv.gens) (mv.drawn.trans ed) (mv.os.trans eo))
    exact nomatch (w0 b z).symm.trans e
  | succ k ih =>
    intro i s hk hi st keep ⟨L, es, ep, t, T, H⟩ eg ed eo
    refine codeAny_builtin F.entry_set_update_loop ?_
    rw [Around.under_plainId F.plain_set_update_loop _]
    show wpAny _ A.in1 (pyNext (.ref I) >>= _) _ _ s
    refine wpAny_bind (W.item i s _ _ (by omega) st fun v s' hv st' mv => ?_)
    obtain ⟨x, u, hx, rfl⟩ := val i v hv
    have keep' : ∀ b o, h0.get? b = some o → s'.heap.get? b = some o := fun b o e => mv.heap b o (fun z => nomatch (w0 b z).symm.trans e) (keep b o e)
    show wpAny _ A.in1 (holding [Value.str x u] (setAdd S (.str x u)) >>= _) _ _ s'
    refine wpAny_bind (wpAny_holding ?_)
    unfold setAdd
    refine wpAny_holding (wpAny_bind ((sk P w).pyHash (k := x) (strKind_is _ _ _ _) ?_))
    refine txt_in (s := { s' with toks := s'.toks + 1 }) (T.on fun o e => mv.heap S o Sw e) (by have := H.le; omega) fun b h' L' es' ep' t' sb T' c => ?_
    refine wpAny_pure ⟨plainId_quiet F.plain_set_update_loop _, ih (i + 1) _ (by omega) (by omega) (W.frame _ s' _ _ st' (Nat.le_add_right _ _) fun b hb o e => ?_) (fun b o e => ?_) ⟨L', es', ep', t', T', H.next hx c⟩ (W.gtrans _ _ _ eg mv.gens) (mv.drawn.trans ed) (mv.os.trans eo)⟩
    · exact (sb.2 b fun z => out (z ▸ hb)).trans e
    · exact (sb.2 b fun z => by rw [z, S0] at e; cases e).trans (keep' b o e)
theorem txts_new {h : Heap} {a : Addr} (ho : h.get? a = some (newSet w)) : Txts P w h a [] #[] 0 (.fresh 0 0 (!w.params.followText "set-order")) where
  obj := ⟨_, ho, ⟨rfl, rfl, rfl⟩, rfl⟩
  each := fun e he => by simp at he
  keys := rfl
  dif := .nil
  few := by decide
  fit := by rfl
  ris := .nil
  led := by
    show _ ∨ (!w.params.followText "set-order") = true
    cases w.params.followText "set-order" <;> simp
/-- set(l), l a list of texts -/
theorem call_setTxt {l : Addr} {items : Array Value} (ks : List Str) {Q : Value → Shared → Prop} (hh : A.handled = none) (hl : s.heap.IsList l items) (hi : ∀ (i : Nat) (v : Value), items[i]? = some v → ∃ k u, ks[i]? = some k ∧ v = .str k u) (hn : items.size = ks.length)
    (few : ks.length + 1 < scanBound)
    (q : ∀ (h' : Heap) (tk : Nat) L es ep t, Txts P w h' s.heap.objs.size L es ep t → HeldS ks ks.length L → (∀ b o, s.heap.get? b = some o → h'.get? b = some o) → Q (.ref s.heap.objs.size) { s with heap := h', toks := tk }) :
    wpAny (model P w) A (call (.type "set") [.ref l]) Q E s := by
  generalize hS : s.heap.objs.size = S at q ⊢
  have free : ∀ b, S ≤ b → s.heap.get? b = none := fun b hb => Heap.get?_none_of_le (hS ▸ hb)
  have lS : l < S := by obtain ⟨o, ho, _⟩ := hl; exact hS ▸ Heap.lt_size ho
  obtain ⟨c, tl, mro⟩ := F.called_set.mro
  have f1 := F.called_set.made
  have f2 := F.called_set.sub
  have f3 := F.called_set.notType
  have f4 := F.called_set.canCreate
  have f5 := F.typeCall_set_1 (.ref l)
  refine wpAny_call (codeAny_of_tree ?_)
  show wpAny _ _ (callAny (.type "set") _) _ _ _
  refine wpAny_pure ⟨Code.quiet_builtin _ (by decide +kernel), codeAny_builtin F.entry_type_call ?_⟩
  rw [Around.under_plain (weight_type_call_type "set" [.ref l] []) rfl]
  repeat (any_goals (first | assumption | wp_step))
  refine codeAny_mono (code_set_led1 (.ref l) (E := E) (Q₁ := fun obj s₁ => obj = .ref S ∧ s₁ = { s with heap := s.heap.push (newSet w) }) ⟨by rw [hS], rfl⟩) fun r s₁ hr => ?_
  match r, hr with
  | .error e, hr => exact hr
  | .ok (.ret obj), hr =>
    obtain ⟨rfl, rfl⟩ := hr
    have at0 : (s.heap.push (newSet w)).get? S = some (newSet w) := hS ▸ Heap.get?_push_size _ rfl
    have ty : Shared.TypeIs { s with heap := s.heap.push (newSet w) } (.ref S) "set" := ⟨_, at0, rfl⟩
    have g1 := F.called_set.init.lookup
    have g2 := F.called_set.init.bind (.ref S)
    repeat (any_goals (first | assumption | wp_step))
    refine codeAny_mono (codeAny_call_builtin (R := wants (fun r s₂ => r = .none ∧ ∃ h' tk L es ep t, s₂ = { s with heap := h', toks := tk } ∧ Txts P w h' S L es ep t ∧ HeldS ks ks.length L ∧ (∀ b o, s.heap.get? b = some o → h'.get? b = some o)) E)
      F.called_set.init.plain F.entry_set_init (check_set_init_1 ty ?_)) fun r₂ s₂ hr₂ => ?_
    · obtain ⟨ol, hol, hcl, nl, hdl⟩ := hl
      obtain ⟨cl, di, da, sl⟩ := ol
      simp only at hcl hdl
      subst hcl hdl
      have ol1 : (s.heap.push (newSet w)).get? l = some { cls := .type "list", dict := di, data := .seq items nl, slots := sl } := Heap.get?_push_of_some _ hol
      have l1 : (s.heap.push (newSet w)).IsList l items := ⟨_, ol1, rfl, nl, rfl⟩
      have b1 := F.sub_list_set
      have b2 := F.sub_list_frozenset
      have b3 : (Value.type "list" == Value.type "dict") = false := by decide
      unfold Builtin.«set.__init__» noKeywords Builtin.Frozenset.updateFrom
      generalize hPI : pyIter = PI
      wp_walk
      subst hPI
      refine wpAny_pyIter_list l1 (wpAny_bind (wpAny_runValue ?_))
      have sz : (s.heap.push (newSet w)).objs.size = S + 1 := by rw [size_push', hS]
      refine all_txt ((Walks.list (A := A.in1.in1.in1) (by simp [hh]) (s.heap.push (newSet w)).objs.size l (by rw [sz]; exact Nat.ne_of_lt (Nat.lt_succ_of_lt lS)) items).toS) S
        (by rw [sz]; simp; exact Nat.ne_of_gt lS) ks hn few hi s.heap (free S (Nat.le_refl _)) (fun b hb => free b (by rw [List.mem_singleton.mp hb, sz]; exact Nat.le_succ _)) s.gens s.drawn s.os ?fin
        (items.size - 0) 0 _ rfl (Nat.zero_le _) ⟨⟨_, Heap.get?_push_size _ rfl, rfl, rfl⟩, l1.push _⟩ (fun b o e => Heap.get?_push_of_some _ (Heap.get?_push_of_some _ e))
        ⟨[], #[], 0, _, txts_new (Heap.get?_push_of_some _ at0), ⟨fun k => by simp, Nat.le_refl _⟩⟩ rfl rfl rfl
      case fin =>
        intro s' L es ep t T H keep eg ed eo
        obtain ⟨h', g, d, tk, os⟩ := s'
        simp only at eg ed eo
        subst eg ed eo
        refine wpAny_pure ?_
        show wpAny _ _ (ret Value.none) _ _ _
        exact wpAny_pure ⟨rfl, h', tk, L, es, ep, t, rfl, T, hn ▸ H, keep⟩
    · match r₂, hr₂ with
      | .error e, hr₂ => exact hr₂
      | .ok (.ret r), hr₂ =>
        obtain ⟨rfl, h', tk, L, es, ep, t, rfl, T, H, keep⟩ := hr₂
        repeat (any_goals (first | assumption | wp_step))
        exact q _ _ _ _ _ _ T H keep
/-- from the order of its sort to a strict one -/
theorem rise_pair : ∀ {p : Str} {l : List Str}, risingS p l = true → (p :: l).Pairwise fun x y => ¬ sg1 y < sg1 x
  | p, [], _ => List.pairwise_singleton _ _
  | p, x :: r, h => by
    obtain ⟨h1, h2⟩ := Bool.and_eq_true_iff.mp (show (!ltCps x.cps.toList p.cps.toList && risingS x r) = true from h)
    have ih := rise_pair h2
    have h0 : ¬ sg1 x < sg1 p := by
      rw [ltCps_eq] at h1
      simpa using h1
    refine List.pairwise_cons.mpr ⟨fun y hy => ?_, ih⟩
    rcases List.mem_cons.mp hy with rfl | hy
    · exact h0
    · refine fun c => (List.pairwise_cons.mp ih).1 y hy ?_
      rcases Decidable.em (sg1 p < sg1 x) with d | d
      · exact List.lt_trans c d
      · rw [List.le_antisymm (List.not_lt.mp d) (List.not_lt.mp h0)]; exact c
theorem rise_all {l : List Str} (h : sortedS l = true) : l.Pairwise fun x y => ¬ sg1 y < sg1 x := by
  cases l with
  | nil => exact .nil
  | cons p r => exact rise_pair h
theorem rise_strict {l : List Str} (h : sortedS l = true) (nd : l.Nodup) : l.Pairwise fun x y => sg1 x < sg1 y := by
  rw [List.nodup_iff_pairwise_ne] at nd
  refine (List.pairwise_and_iff.mpr ⟨rise_all h, nd⟩).imp fun {x y} z => ?_
  rcases Decidable.em (sg1 x < sg1 y) with c | c
  · exact c
  · exact absurd (sg1_inj (List.le_antisymm (List.not_lt.mp z.1) (List.not_lt.mp c))) z.2
theorem strs_from : ∀ (l : List Value), (∀ v ∈ l, ∃ k u, v = Value.str k u) → StrsAre l (l.map fun v => keyS (0, v))
  | [], _ => .nil
  | v :: l, h => by
    obtain ⟨k, u, rfl⟩ := h v List.mem_cons_self
    exact .cons k u (strs_from l fun x hx => h x (.tail _ hx))
theorem sorted_txts {Q : Value → Shared → Prop} (T : Txts P w s.heap a L es ep t) (hh : A.handled = none) (few : L.length < 64)
    (q : ∀ s' p (out : Array Value) (c : Nat) (L' : List Str), (∀ b o, s.heap.get? b = some o → s'.heap.get? b = some o) → s'.gens = s.gens → s'.os = s.os → s.heap.objs.size ≤ p → s'.heap.get? p = some (seqObj "list" out c) →
      StrsAre out.toList L' → L'.Perm L → L'.Pairwise (fun x y => sg1 x < sg1 y) → Q (.ref p) s') :
    wpAny (model P w) A (call (.builtin "sorted") [.ref a]) Q E s := by
  obtain ⟨o, ho, hex, hd⟩ := T.obj
  refine Calls.call_function_entry kind_sorted plain_sorted entry_sorted (args_sorted1 _) ?_
  unfold Builtin.«sorted»
  refine wpAny_bind (m := checkCount "sorted" 1 1 _) (wpAny_pure ?_)
  refine wpAny_bind (collect_set (A := A.in1) hh ⟨o, ho, hex.1, hd⟩ T.fit T.few T.ris T.led fun s1 vs k1 hz g1 o1 pm => ?_)
  have vl : vs.length = L.length := by rw [pm.length_eq, List.length_map, Array.length_toList, T.len]
  have hs : StrsAre vs (vs.map fun v => keyS (0, v)) := strs_from vs fun v hv => by
    obtain ⟨e, he, rfl⟩ := List.mem_map.mp (pm.mem_iff.mp hv)
    obtain ⟨k, u, rfl⟩ := T.each e he
    exact ⟨k, u, rfl⟩
  have pk : (vs.map fun v => keyS (0, v)).Perm L := by
    have z := pm.map fun v => keyS (0, v)
    rw [List.map_map] at z
    rw [← T.keys]
    exact z
  refine wpAny_bind (wpAny_newList ?_ (by rw [vl, sizeLine_eq]; omega))
  have oL : (s1.heap.push (seqObj "list" vs.toArray 0)).get? s1.heap.objs.size = some (seqObj "list" vs.toArray 0) := Heap.get?_push_size _ rfl
  refine wpAny_bind (wpAny_holding (wpAny_call_entry slot_list_sort ⟨_, oL, rfl⟩ entry_list_sort (list_sort_treeK strKind_oneLt oL hs.keysOf (fun v₁ v₂ rest e => keyKind_strs (by rw [← e]; exact hs)) (by rw [vl]; exact few) fun st' a1 a2 => ⟨_, rfl, ?_⟩) (args_list_sort _)))
  obtain ⟨ss, b1, b2, b3⟩ := sorted_out_str hs a1 a2
  obtain ⟨c, hc⟩ := sortedHeap_at (vs := vs) (out := (arrOf st').map (·.2)) oL
  have pL := b2.trans pk
  refine wpAny_pure ⟨_, rfl, q _ _ _ c ss (fun b u e => ?_) g1 o1 hz hc b1 pL (rise_strict b3 (pL.nodup_iff.mpr T.dif))⟩
  have e1 := k1 b u e
  have lt := Heap.lt_size e1
  show (sortedHeap (s1.heap.push (seqObj "list" vs.toArray 0)) s1.heap.objs.size vs _).get? b = some u
  rw [sortedHeap_old (Nat.ne_of_lt lt) (by rw [size_push']; exact Nat.lt_succ_of_lt lt)]
  exact Heap.get?_push_of_some _ e1
end
/-! ### over the abstract heap -/
def SetT (P : Program) (w : World) (a : Addr) (L : List Str) : HO := .ext fun h => ∃ es ep t, Txts P w h a L es ep t
theorem setT_new {P : Program} {w : World} {H : Hp} {h : Heap} {a : Addr} {L : List Str} (R : ∃ es ep t, Txts P w h a L es ep t) : ObjOk P w H h a (SetT P w a L) := by
  have ⟨es, ep, t, T⟩ := R
  have ⟨o, ho, _⟩ := T.obj
  exact ⟨R, ⟨o, ho⟩, fun h1 h2 ⟨es, ep, t, T⟩ k => ⟨es, ep, t, T.on k⟩⟩
theorem vals_at : ∀ {ks : List Str} {us : List Value}, Vals (ks.map V.str) us → ∀ (i : Nat) (v : Value), us[i]? = some v → ∃ k u, ks[i]? = some k ∧ v = .str k u
  | _ :: _, _, .cons r t, 0, v, e => by obtain ⟨u, rfl⟩ := r; cases e; exact ⟨_, u, rfl, rfl⟩
  | _ :: _, _, .cons r t, i + 1, v, e => vals_at t i v e
  | [], _, .nil, i, v, e => by simp at e
theorem vals_strs : ∀ {vs : List Value} {ks : List Str}, StrsAre vs ks → Vals (ks.map V.str) vs
  | _, _, .nil => .nil
  | _, _, .cons k u t => .cons ⟨u, rfl⟩ (vals_strs t)
section
variable {X : Cx}
/-- set(l) -/
def rSetT (K : PySem.W.Frag) (P : Program) (w : World) : List V → Hp → VK → Prop := fun xs H Q => ∃ (l : Addr) (ks : List Str), xs = [V.ref l] ∧ SqL K H l (ks.map V.str) ∧ ks.length < 64 ∧
  ∀ a L, H a = none → (∀ k, k ∈ L ↔ k ∈ ks) → L.length ≤ ks.length → Q (.ref a) (upd H a (SetT P w a L))
theorem cr_setT (hc : X.calm = true) : CallR X (.type "set") (rSetT X.K X.prog X.w) := by
  intro pins s σ H xs us Q I r h
  obtain ⟨l, ks, rfl, hl, few, q⟩ := h
  rw [Vals.ref1 r]
  obtain ⟨its, rv, pl, _⟩ := I.list hl
  refine call_setTxt (P := X.prog) (w := X.w) ks (I.ok.hd hc) pl.isList (fun i v e => vals_at rv i v (by simpa using e)) (by rw [List.size_toArray, ← rv.length, List.length_map]) (by unfold scanBound; omega) fun h' tk L es ep t T Hd keep => ?_
  refine ⟨.ref s.heap.objs.size, upd H s.heap.objs.size (SetT X.prog X.w s.heap.objs.size L), I.laid (t' := tk) keep (Nat.le_refl _) (setT_new ⟨es, ep, t, T⟩), rfl, q _ L (I.hok.fresh (Nat.le_refl _)) (fun k => ?_) Hd.le⟩
  rw [Hd.mem, List.take_length]
/-- sorted(a set) -/
def rSortT (P : Program) (w : World) : List V → Hp → VK → Prop := fun vs H Q => ∃ (a : Addr) (L : List Str), vs = [V.ref a] ∧ H a = some (SetT P w a L) ∧ L.length < 64 ∧
  ∀ (L' : List Str) (p : Addr), L'.Perm L → L'.Pairwise (fun x y => sg1 x < sg1 y) → H p = none → Q (.ref p) (upd H p (.lst (L'.map V.str)))
theorem cr_sortT (hc : X.calm = true) : CallR X (.builtin "sorted") (rSortT X.prog X.w) := by
  intro pins s σ H vs us Q I r h
  obtain ⟨a, L, rfl, ha, few, q⟩ := h
  obtain ⟨es, ep, t, T⟩ : ∃ es ep t, Txts X.prog X.w s.heap a L es ep t := (I.hok a _ ha).1
  rw [Vals.ref1 r]
  refine sorted_txts T (I.ok.hd hc) few fun s' p out c L' keep g o hp hg eo pm pw => ?_
  have hn : H p = none := I.hok.fresh hp
  have J : Inv X pins σ (upd H p (.lst (L'.map V.str))) { s with heap := s'.heap, gens := s'.gens, drawn := s'.drawn, toks := s'.toks } :=
    I.call (ch := []) (Un.laid keep hp hn) (I.hok.laid keep hp ⟨by rw [List.length_map, pm.length_eq, sizeLine_eq]; omega, out.toList, c, vals_strs eo, hg⟩) (by rw [g]; exact I.bare) (fun _ z => nomatch z)
  obtain ⟨h1, g1, d1, t1, o1⟩ := s'
  simp only at o
  subst o
  exact ⟨.ref p, _, J, rfl, q L' p pm pw hn⟩
end
end Tq

namespace Dn
open PySem PySem.Spec PyProof.Rows L2
/-- the class has a def of that name, at g -/
structure Dun (K : PySem.W.Frag) (C : Addr) (m : Str) (g : Addr) : Prop where
  at_ : PySem.W.findIn K (.ref C) m = some (some (.ref g))
  fn : PySem.W.isFn K (.ref g) = true
section
variable {prog : Program} {w : World} {A : Around} {E : Value → Shared → Prop} {s : Shared} {K : PySem.W.Frag} {x C f : Addr} {ox : Obj} {od : Option Obj} {b tb : Value}
/-- what object's own ne says, by the text's eq -/
theorem obj_ne {Q : Fin → Shared → Prop} (hu : A.units < cLine) (X : K.In s.heap) (I : PySem.W.InstAt s.heap x ox C od) (hs : PySem.W.findIn K (.ref C) "__eq__" = some (some (.ref f))) (hf : PySem.W.isFn K (.ref f) = true)
    (h : wpAny (model prog w) A (call (.ref f) [.ref x, b]) (fun v s' => ∃ k, v = .bool k ∧ Q (.done (.ret (.bool (!k)))) s') E s) : wpAny (model prog w) A (Builtin.«object.__ne__» ⟨[.ref x, b], []⟩) Q E s := by
  unfold Builtin.«object.__ne__»
  repeat (first
    | with_reducible refine wpAny_cRoomFor hu ?_
    | (refine wpAny_bind (m := callSpecialIfBound? (.ref x) (Str.ofString "__eq__") [b]) (PySem.W.ifBound_K X I hs hf (wpAny_mono h (fun r s' hr => by
          obtain ⟨k, rfl, q⟩ := hr
          repeat (first | exact q | exact wpAny_pure q | exact wpAny_truthy_bool q | (refine wpAny_bind (m := truthy (.bool _)) (wpAny_truthy_bool ?_)) | wp_step)) fun _ _ e => e)))
    | wp_step)
theorem ne_K {Q : Value → Shared → Prop} (hu : A.units + 1 < cLine) (X : K.In s.heap) (I : PySem.W.InstAt s.heap x ox C od) (hb : PySem.W.Looks (model prog w) s.heap (typeOf b) tb) (hn : PySem.W.notFirst K C tb = true)
    (h0 : PySem.W.findIn K (.ref C) "__ne__" = some (some (.builtin "object.__ne__"))) (ho : PySem.W.subIn K (.ref C) (.type "object") = some true) (hs : PySem.W.findIn K (.ref C) "__eq__" = some (some (.ref f))) (hf : PySem.W.isFn K (.ref f) = true)
    (h : wpAny (model prog w) A.in1 (call (.ref f) [.ref x, b]) (fun v s' => ∃ k, v = .bool k ∧ Q (.bool (!k)) s') E s) : wpAny (model prog w) A (richCompare .NotEq (.ref x) b) Q E s := by
  have chk : ∀ {Q' : Unit → Shared → Prop} {E' : Value → Shared → Prop}, Q' () s → wpAny (model prog w) A.in1 (checkBuiltinCall "object.__ne__" ⟨[.ref x, b], []⟩) Q' E' s := fun q => by
    simp only [checkBuiltinCall, PySem.F.cmpKind_ne, PySem.F.cmpSplit_ne]
    refine wpAny_bind ?_
    unfold isInstance
    refine wpAny_bind (I.type.here ((PySem.W.looks_subIn X ho).here ?_))
    have ha := PySem.F.cmpArgs_ne (.ref x) b
    cases hsig : Manifest.signature? "object.__ne__" with
    | none => exact wpAny_pure q
    | some sig =>
      simp only [argsOk, hsig] at ha
      show wpAny _ _ (Bind.checkArgs "object.__ne__" sig ⟨[.ref x, b], []⟩) _ _ _
      rw [show Bind.checkArgs "object.__ne__" sig ⟨[.ref x, b], []⟩ = pure () from ha]
      exact wpAny_pure q
  have one : wpAny (model prog w) A (tryCompare (.ref x) "__ne__" b) (fun r s' => ∃ v, r = some v ∧ Q v s') E s := by
    unfold tryCompare
    have hc : wpAny (model prog w) A (call (.builtin "object.__ne__") [.ref x, b]) (fun v s' => ∃ k, v = .bool k ∧ Q (.bool k) s') E s := by
      refine wpAny_call (codeAny_call_builtin PySem.F.cmp_object.ne.plain PySem.F.cmpEntry_ne (chk (obj_ne (A := A.in1) (by simpa using hu) X I hs hf (wpAny_mono h (fun v s' hv => ?_) fun _ _ e => e))))
      obtain ⟨k, rfl, q⟩ := hv
      exact ⟨k, rfl, _, rfl, q⟩
    have hbd : wpAny (model prog w) A (callSpecialIfBound? (.ref x) "__ne__" [b]) (fun r s' => ∃ k, r = some (.bool k) ∧ Q (.bool k) s') E s := by
      simp only [callSpecialIfBound?, bindSpecialIfBound?]
      refine wpAny_holding (wpAny_bind (wpAny_bind (wpAny_bind (I.type.here ((PySem.W.looks_findIn X h0).here ?_)))))
      simp only [PySem.F.cmp_object.ne.bind]
      refine wpAny_bind (wpAny_askSetting (wpAny_ite ?_))
      have fin : wpAny (model prog w) A (call (.builtin "object.__ne__") ([.ref x] ++ [b]) >>= fun v => pure (some v)) (fun r s' => ∃ k, r = some (.bool k) ∧ Q (.bool k) s') E s :=
        wpAny_bind (wpAny_mono hc (fun v s' hv => wpAny_pure (let ⟨k, e, q⟩ := hv; ⟨k, by rw [e], q⟩)) fun _ _ h' => h')
      split
      · exact wpAny_bind (wpAny_pure (wpAny_pure fin))
      · exact wpAny_tryCatch (wpAny_bind (wpAny_pure (wpAny_pure fin)))
    refine wpAny_bind (wpAny_mono hbd (fun r s' hr => ?_) fun _ _ e => e)
    obtain ⟨k, rfl, q⟩ := hr
    exact wpAny_pure ⟨_, rfl, q⟩
  unfold richCompare
  simp only [oneThing_ref]
  refine wpAny_holding (wpAny_bind (wpAny_cRoomFor (Nat.lt_of_succ_lt hu) ?_))
  rw [cmpInfo_NotEq]
  dsimp only
  refine wpAny_bind (I.type.here (wpAny_bind (hb.here ?_)))
  split
  · rename_i q
    have e : PySem.W.subIn K tb (.ref C) = some false := by
      rcases Bool.or_eq_true_iff.mp hn with e | e
      · rw [beq_iff_eq.mp e] at q; simp at q
      · exact beq_iff_eq.mp e
    refine wpAny_bind ((PySem.W.looks_subIn X e).here ?_)
    simp only [Bool.false_eq_true, if_false]
    refine wpAny_bind (wpAny_mono one (fun r s' z => ?_) fun _ _ e => e)
    obtain ⟨v, rfl, hq⟩ := z
    exact wpAny_pure hq
  · refine wpAny_bind (wpAny_pure ?_)
    simp only [Bool.false_eq_true, if_false]
    refine wpAny_bind (wpAny_mono one (fun r s' z => ?_) fun _ _ e => e)
    obtain ⟨v, rfl, hq⟩ := z
    exact wpAny_pure hq
end
section
variable {X : Cx} {CX : CXT} {pins : List (Addr × Obj)} {σ : L2.St} {H : Hp} {s : Shared} {a C dx g : Addr} {fs : List (Str × V)} {n : Nat} {sp : Sp} {E : XK}
theorem inst (I : Inv X pins σ H s) (e : H a = some (.ins C dx fs)) : ∃ ox od, PySem.W.InstAt s.heap a ox C (some od) := by
  obtain ⟨mA, O, _⟩ := ins_get I.hok e
  obtain ⟨od, J, _⟩ := O.look
  exact ⟨_, _, J⟩
theorem run_here {A : Around} {Q : VK} {us : List Value} {ws : List V} (F : FnR X.prog X.w X.K X.mg X.base CX n g sp) (hr : Room n A) (e0 : Env0 X.prog X.w X.K X.mg X.base A X.stack s H) (hx : PassesAt CX X σ E) (I : Inv X pins σ H s) (r : Vals ws us) (h : sp ws H Q E) :
    wpAny (model X.prog X.w) A (call (.ref g) us) (EP X pins σ Q) X.xe s := by
  refine wpAny_call (codeAny_mono (F A X.stack s H us ws Q E hr e0 r h) fun r s' hq => ?_)
  cases r with
  | error e => exact hx pins H s e s' I hq
  | ok fl =>
    cases fl with
    | ret u => exact I.after hq
    | next => exact False.elim hq
    | brk => exact False.elim hq
    | cont => exact False.elim hq
/-- len(x) -/
def rLenO (C : Addr) (sp : Sp) (E : XK) : List V → Hp → VK → Prop := fun xs H Q => ∃ a dx fs, xs = [V.ref a] ∧ H a = some (.ins C dx fs) ∧ sp [.ref a] H (fun z H' => ∃ n : Int, z = .int n ∧ 0 ≤ n ∧ n < 2 ^ 63 ∧ Q (.int n) H') E
theorem call_lenO (d : Dun X.K C "__len__" g) (F : FnR X.prog X.w X.K X.mg X.base CX n g sp) (hr : Room (n + 1) X.A) (hx : ∀ σ, PassesAt CX X σ E) : CallR X (.builtin "len") (rLenO C sp E) := by
  intro pins s σ H xs us Q I r h
  obtain ⟨a, dx, fs, rfl, ea, q⟩ := h
  obtain ⟨u, rfl, ru⟩ := r.one
  cases (show u = Value.ref a from ru)
  obtain ⟨ox, od, J⟩ := inst I ea
  obtain ⟨m, hF⟩ := I.fr
  refine PySem.W.len_K hF I.ok.mod.kin J d.at_ d.fn (wpAny_mono (run_here (us := [.ref a]) (ws := [.ref a]) F hr.in1 I.env0.in1 (hx σ) I (.cons rfl .nil) q) (fun w s' z => ?_) fun _ _ x => x)
  obtain ⟨z', H', I', rz, i, ei, h0, h1, qz⟩ := z
  subst ei
  obtain ⟨t, e⟩ := (show ∃ t, w = Value.int i t from rz)
  cases e
  exact ⟨⟨h0, h1⟩, .int i, H', I'.tok _, ⟨_, rfl⟩, qz⟩
/-- str(x) -/
def rStrO (C : Addr) (sp : Sp) (E : XK) : List V → Hp → VK → Prop := fun xs H Q => ∃ a dx fs, xs = [V.ref a] ∧ H a = some (.ins C dx fs) ∧ sp [.ref a] H (fun z H' => ∃ y, z = .str y ∧ Q (.str y) H') E
theorem call_strO (d : Dun X.K C "__str__" g) (F : FnR X.prog X.w X.K X.mg X.base CX n g sp) (hr : Room (n + 2) X.A) (hx : ∀ σ, PassesAt CX X σ E) : CallR X (.type "str") (rStrO C sp E) := by
  intro pins s σ H xs us Q I r h
  obtain ⟨a, dx, fs, rfl, ea, q⟩ := h
  obtain ⟨u, rfl, ru⟩ := r.one
  cases (show u = Value.ref a from ru)
  obtain ⟨ox, od, J⟩ := inst I ea
  have hr2 : Room n X.A.in1.in1 := (show Room (n + 1) X.A.in1 from Room.in1 hr).in1
  refine PySem.W.kso_call hr2.units0 I.kIn J d.at_ d.fn (wpAny_mono (run_here (us := [.ref a]) (ws := [.ref a]) F hr2 I.env0.in1.in1 (hx σ) I (.cons rfl .nil) q) (fun w s' z => ?_) fun _ _ x => x)
  obtain ⟨z', H', I', rz, y, ey, qz⟩ := z
  subst ey
  obtain ⟨t, e⟩ := (show ∃ t, w = Value.str y t from rz)
  cases e
  exact ⟨.str y, H', I', ⟨_, rfl⟩, qz⟩
/-- x in o, x not in o -/
def rInO (C : Addr) (sp : Sp) (E : XK) (neg : Bool) : R2 := fun x y H Q => ∃ a dx fs, y = .ref a ∧ H a = some (.ins C dx fs) ∧ sp [.ref a, x] H (fun z H' => ∃ k, z = .bl k ∧ Q (.bl (k != neg)) H') E
theorem op_inO (d : Dun X.K C "__contains__" g) (F : FnR X.prog X.w X.K X.mg X.base CX n g sp) (hr : Room n X.A) (hx : ∀ σ, PassesAt CX X σ E) : OpR X (compareOp .In) (rInO C sp E false) := by
  intro pins s σ H x y v u Q I rx ry h
  obtain ⟨a, dx, fs, rfl, ea, q⟩ := h
  cases (show u = Value.ref a from ry)
  obtain ⟨ox, od, J⟩ := inst I ea
  obtain ⟨m, hF⟩ := I.fr
  refine PySem.W.in_K hF I.ok.mod.kin J d.at_ d.fn (wpAny_mono (run_here (us := [.ref a, v]) (ws := [.ref a, x]) F hr I.env0 (hx σ) I (.cons rfl (.cons rx .nil)) q) (fun w s' z => ?_) fun _ _ x => x)
  obtain ⟨z', H', I', rz, k, ek, qz⟩ := z
  subst ek
  cases (show w = Value.bool k from rz)
  exact wpAny_truthy_bool ⟨.bl k, H', I', rfl, by cases k <;> exact qz⟩
theorem op_notInO (d : Dun X.K C "__contains__" g) (F : FnR X.prog X.w X.K X.mg X.base CX n g sp) (hr : Room n X.A) (hx : ∀ σ, PassesAt CX X σ E) : OpR X (compareOp .NotIn) (rInO C sp E true) := by
  intro pins s σ H x y v u Q I rx ry h
  obtain ⟨a, dx, fs, rfl, ea, q⟩ := h
  cases (show u = Value.ref a from ry)
  obtain ⟨ox, od, J⟩ := inst I ea
  obtain ⟨m, hF⟩ := I.fr
  refine PySem.W.notIn_K hF I.ok.mod.kin J d.at_ d.fn (wpAny_mono (run_here (us := [.ref a, v]) (ws := [.ref a, x]) F hr I.env0 (hx σ) I (.cons rfl (.cons rx .nil)) q) (fun w s' z => ?_) fun _ _ x => x)
  obtain ⟨z', H', I', rz, k, ek, qz⟩ := z
  subst ek
  cases (show w = Value.bool k from rz)
  exact wpAny_truthy_bool ⟨.bl (!k), H', I', rfl, by cases k <;> exact qz⟩
/-- x == y, x != y by the text's eq, y any value whose class is not one below C -/
def rEqO (K : PySem.W.Frag) (C : Addr) (sp : Sp) (E : XK) (neg : Bool) : R2 := fun x y H Q => ∃ a dx fs t, x = .ref a ∧ H a = some (.ins C dx fs) ∧ TyX K H y t ∧ PySem.W.notFirst K C t = true ∧ sp [x, y] H (fun z H' => ∃ k, z = .bl k ∧ Q (.bl (k != neg)) H') E
theorem op_eqO (d : Dun X.K C "__eq__" g) (F : FnR X.prog X.w X.K X.mg X.base CX n g sp) (hr : Room n X.A) (hx : ∀ σ, PassesAt CX X σ E) : OpR X (compareOp .Eq) (rEqO X.K C sp E false) := by
  intro pins s σ H x y v u Q I rx ry h
  obtain ⟨a, dx, fs, t, rfl, ea, ty, hn, q⟩ := h
  cases (show v = Value.ref a from rx)
  obtain ⟨ox, od, J⟩ := inst I ea
  obtain ⟨P, Z, p, _⟩ := kit_of I ry ty
  obtain ⟨m, hF⟩ := I.fr
  show wpAny _ _ (richCompare .Eq (.ref a) u) _ _ _
  refine PySem.W.cmp_K (op := .Eq) (tb := t) hr.units0 hF I.ok.mod.kin J (Z.ty _ _ I.kIn p) hn d.at_ d.fn (wpAny_mono (run_here (us := [.ref a, u]) (ws := [.ref a, y]) F hr I.env0 (hx σ) I (.cons rfl (.cons ry .nil)) q) (fun w s' z => ?_) fun _ _ x => x)
  obtain ⟨z', H', I', rz, k, ek, qz⟩ := z
  subst ek
  cases (show w = Value.bool k from rz)
  exact ⟨.bl k, H', I', rfl, by cases k <;> exact qz⟩
theorem op_neO (h0 : PySem.W.findIn X.K (.ref C) "__ne__" = some (some (.builtin "object.__ne__"))) (ho : PySem.W.subIn X.K (.ref C) (.type "object") = some true) (d : Dun X.K C "__eq__" g)
    (F : FnR X.prog X.w X.K X.mg X.base CX n g sp) (hr : Room (n + 1) X.A) (hx : ∀ σ, PassesAt CX X σ E) : OpR X (compareOp .NotEq) (rEqO X.K C sp E true) := by
  intro pins s σ H x y v u Q I rx ry h
  obtain ⟨a, dx, fs, t, rfl, ea, ty, hn, q⟩ := h
  cases (show v = Value.ref a from rx)
  obtain ⟨ox, od, J⟩ := inst I ea
  obtain ⟨P, Z, p, _⟩ := kit_of I ry ty
  show wpAny _ _ (richCompare .NotEq (.ref a) u) _ _ _
  refine ne_K (tb := t) (by have := hr.units; omega) I.kIn J (Z.ty _ _ I.kIn p) hn h0 ho d.at_ d.fn (wpAny_mono (run_here (us := [.ref a, u]) (ws := [.ref a, y]) F hr.in1 I.env0.in1 (hx σ) I (.cons rfl (.cons ry .nil)) q) (fun w s' z => ?_) fun _ _ x => x)
  obtain ⟨z', H', I', rz, k, ek, qz⟩ := z
  subst ek
  cases (show w = Value.bool k from rz)
  exact ⟨k, rfl, .bl (!k), H', I', rfl, by cases k <;> exact qz⟩
/-- x[i] -/
def tSubO (C : Addr) (sp : Sp) (E : L2.St → XK) (ta ti : TE) : TE := fun σ H Q => ta σ H fun x H1 => ti σ H1 fun y H2 => ∃ a dx fs, x = .ref a ∧ H2 a = some (.ins C dx fs) ∧ sp [x, y] H2 Q (E σ)
theorem pe_subO {E : L2.St → XK} {o i : Expr} {ta ti : TE} {pos : Pos} (d : Dun X.K C "__getitem__" g) (fi : PySem.W.fnIn X.K g = true) (F : FnR X.prog X.w X.K X.mg X.base CX n g sp) (hr : Room (n + 1) X.A) (hx : ∀ σ, PassesAt CX X σ (E σ))
    (he : PE X o ta) (hi : PE X i ti) (hsl : ∀ p v, subscripted i true p v = runValue (.builtin "lifetime.subscript" ⟨[p, v], []⟩)) : PE X (.Subscript o i pos) (tSubO C sp E ta ti) := by
  refine ⟨fun pins s σ H Q I h => ?_⟩
  refine Subscript_ (thn (he.run pins s σ H _ I h) fun v s1 ⟨x, H1, I1, rx, q1⟩ => thn (hi.run pins s1 σ H1 _ I1 q1) fun u s2 ⟨y, H2, I2, ry, q2⟩ => ?_)
  obtain ⟨a, dx, fs, rfl, ea, q⟩ := q2
  cases (show v = Value.ref a from rx)
  obtain ⟨ox, od, J⟩ := inst I2 ea
  obtain ⟨m, hF⟩ := I2.fr
  exact PySem.W.sub_K hF I2.ok.mod.kin J d.at_ fi d.fn (run_here (us := [.ref a, u]) (ws := [.ref a, y]) F hr.in1 I2.env0.in1 (hx σ) I2 (.cons rfl (.cons ry .nil)) q) (hsl _ _)
end
end Dn

namespace Dn
open PySem PySem.Spec PyProof.Rows L2
section
variable {X : Cx} {CX : CXT} {C f : Addr} {n i : Nat} {sp : Sp} {E : XK}
/-- x(*e), x a local that holds the class at C -/
def tMakeS (K : PySem.W.Frag) (i : Nat) (C : Addr) (sp : Sp) (E : XK) (te : TE) : TE := fun σ H Q => σ[i]? = some (some (.ref C)) ∧ te σ H fun y H1 => ∃ a xs, y = V.ref a ∧ (SqT K H1 a xs ∨ SqL K H1 a xs) ∧
  ∀ x dx, H1 x = Option.none → H1 dx = Option.none → dx ≠ x → sp (V.ref x :: xs) (upd (upd H1 dx (.own x)) x (.ins C dx [])) (fun v H2 => v = .non ∧ Q (.ref x) H2) E
theorem pe_makeS {x : Str} {e : Expr} {te : TE} {p p2 pos : Pos} (M : Mk X.K C f) (F : FnR X.prog X.w X.K X.mg X.base CX n f sp) (hr : Room (n + 1) X.A) (hx : Passes CX X E) (hN : X.N[i]? = some x) (hv : Vis X.env.scope x) (he : PE X e te)
    (hd : (x == ("__debug__" : Str)) = false := by decide) (hcd : (x == ("__classdict__" : Str)) = false := by decide) (hst : starEach [.Starred e p2] X.env = [(true, eval e X.env)] := by rfl) :
    PE X (.Call (.Name x p) [.Starred e p2] [] pos) (tMakeS X.K i C sp E te) := by
  refine ⟨fun pins s σ H Q I h => ?_⟩
  obtain ⟨hs, h⟩ := h
  refine wpAny_Call_Name_kw (thn ((pe_var (pos := p) (i := i) hN hv hd hcd).run pins s σ H (fun v H1 => v = .ref C ∧ H1 = H) I ⟨.ref C, hs, rfl, rfl⟩) fun u s1 ⟨v, H1, I1, r1, ev, eH⟩ => ?_)
  subst ev
  rw [eH] at I1
  cases r1
  refine PySem.W.callWith_S (h₀ := X.base) I.ok.mod.kin M.kp (thn (he.run pins s1 σ H _ I1 h) fun v s2 ⟨y, H2, I2, ry, a, xs, ey, hxs, q⟩ => ?_) hst
  subst ey
  obtain rfl : v = Value.ref a := ry
  exact StX.star_any I2 hxs fun us s3 I3 rv => ⟨I3.kIn, StX.run_makeR M F hr hx I3 rv q⟩
/-- C(), C a class of the module -/
theorem pe_makeR0 {x : Str} {p pos : Pos} (M : Mk X.K C f) (F : FnR X.prog X.w X.K X.mg X.base CX n f sp) (hr : Room (n + 1) X.A) (hg : Gl X x) (hm : X.mg x = some (.ref C)) (hx : Passes CX X E) (hdb : (x == ("__debug__" : Str)) = false := by decide) :
    PE X (.Call (.Name x p) [] [] pos) (StX.tMakeR C sp E tNil) := by
  refine ⟨fun pins s σ H Q I h => ?_⟩
  refine wpAny_Call_Name_kw (ld_glob I hg hm ?_ hdb)
  exact PySem.W.callWith_K0 I.kIn M.kp (StX.run_makeR (us := []) (vs := []) M F hr hx I .nil h)
/-- x in t, t a tuple of data -/
def rInDT (K : PySem.W.Frag) (neg : Bool) : R2 := fun x y H Q => ∃ d ds, Dp K H x d ∧ Dp K H y (.tuple ds) ∧ SeqAt.shaped d = true ∧ PyData.canLayAll0 ds = true ∧ Q (.bl ((ds.any fun e => PyData.eqv e d) != neg)) H
theorem op_inDT (hu : X.A.units + 65 < cLine) : OpR X (compareOp .In) (rInDT X.K false) := by
  intro pins s σ H x y v u Q I rx ry h
  obtain ⟨d, ds, hd, he, sd, se, q⟩ := h
  obtain ⟨as, r1⟩ := Dp.reads I d x v hd rx
  obtain ⟨bs, r2⟩ := Dp.reads I (.tuple ds) y u he ry
  refine SeqAt.in_tuple_reads r2 r1 se (SeqAt.canLay_of_shaped sd) (room_in_shaped sd hu) ⟨.bl _, H, I, rfl, ?_⟩
  cases e : ds.any fun z => PyData.eqv z d <;> rw [e] at q <;> exact q
theorem op_notInDT (hu : X.A.units + 65 < cLine) : OpR X (compareOp .NotIn) (rInDT X.K true) := by
  intro pins s σ H x y v u Q I rx ry h
  obtain ⟨d, ds, hd, he, sd, se, q⟩ := h
  obtain ⟨as, r1⟩ := Dp.reads I d x v hd rx
  obtain ⟨bs, r2⟩ := Dp.reads I (.tuple ds) y u he ry
  refine SeqAt.notIn_tuple_reads r2 r1 se (SeqAt.canLay_of_shaped sd) (room_in_shaped sd hu) ⟨.bl _, H, I, rfl, ?_⟩
  cases e : ds.any fun z => PyData.eqv z d <;> rw [e] at q <;> exact q
end
/-! ### data over a heap that grows -/
section
variable {K : PySem.W.Frag} {H H' : Hp}
theorem sqL_up {a : Addr} {xs : List V} (h : SqL K H a xs) (s : Same H H') : SqL K H' a xs := s.seq h
theorem sqT_up {a : Addr} {xs : List V} (h : SqT K H a xs) (s : Same H H') : SqT K H' a xs :=
  h.elim (fun h => .inl (h.elim (fun h => .inl (s _ _ h)) fun ⟨o, h⟩ => .inr ⟨o, s _ _ h⟩)) .inr
mutual
theorem dp_up (s : Same H H') : ∀ {v : V} {d : PyData}, Dp K H v d → Dp K H' v d
  | _, _, .non => .non
  | _, _, .bl b => .bl b
  | _, _, .int i => .int i
  | _, _, .str x => .str x
  | _, _, .lst h a => .lst (sqL_up h s) (dpAll_up s a)
  | _, _, .tup h a => .tup (sqT_up h s) (dpAll_up s a)
theorem dpAll_up (s : Same H H') : ∀ {vs : List V} {ds : List PyData}, DpAll K H vs ds → DpAll K H' vs ds
  | _, _, .nil => .nil
  | _, _, .cons h a => .cons (dp_up s h) (dpAll_up s a)
end
theorem dpAll_len : ∀ {vs : List V} {ds : List PyData}, DpAll K H vs ds → vs.length = ds.length
  | _, _, .nil => rfl
  | _, _, .cons _ a => by rw [List.length_cons, List.length_cons, dpAll_len a]
theorem dpAll_get : ∀ {vs : List V} {ds : List PyData}, DpAll K H vs ds → ∀ {i : Nat} {v : V}, vs[i]? = some v → ∃ d, ds[i]? = some d ∧ Dp K H v d
  | _, _, .cons h _, 0, v, e => by cases e; exact ⟨_, rfl, h⟩
  | _, _, .cons _ a, i + 1, v, e => dpAll_get a (i := i) e
  | _, _, .nil, i, v, e => by simp at e
theorem dpAll_drop : ∀ {vs : List V} {ds : List PyData} (n : Nat), DpAll K H vs ds → DpAll K H (vs.drop n) (ds.drop n)
  | _, _, 0, a => a
  | _, _, n + 1, .nil => .nil
  | _, _, n + 1, .cons _ a => dpAll_drop n a
theorem dpAll_take : ∀ {vs : List V} {ds : List PyData} (n : Nat), DpAll K H vs ds → DpAll K H (vs.take n) (ds.take n)
  | _, _, 0, a => .nil
  | _, _, n + 1, .nil => .nil
  | _, _, n + 1, .cons h a => .cons h (dpAll_take n a)
theorem lay_at : ∀ {ds : List PyData}, PyData.canLayAll0 ds = true → ∀ {i : Nat} {d : PyData}, ds[i]? = some d → d.canLay0 = true
  | d :: ds, h, i, e, q => by
    have h' : (d.canLay0 && PyData.canLayAll0 ds) = true := by simpa only [PyData.canLayAll0] using h
    obtain ⟨h1, h2⟩ := Bool.and_eq_true_iff.mp h'
    cases i with
    | zero => cases q; exact h1
    | succ i => exact lay_at h2 (i := i) q
  | [], _, i, e, q => by simp at q
theorem depth_at : ∀ {ds : List PyData} {i : Nat} {d : PyData}, ds[i]? = some d → d.depth ≤ PyData.depthAll ds
  | d :: ds, i, e, q => by
    simp only [PyData.depthAll]
    cases i with
    | zero => cases q; omega
    | succ i => have := depth_at (ds := ds) (i := i) q; omega
  | [], i, e, q => by simp at q
/-- the items of shaped data are shaped -/
theorem shaped_at {ds : List PyData} (h : SeqAt.shaped (.tuple ds) = true) {i : Nat} {d : PyData} (e : ds[i]? = some d) : SeqAt.shaped d = true := by
  have h1 := SeqAt.canLay_of_shaped h
  have h2 := SeqAt.depth_of_shaped h
  simp only [PyData.canLay0] at h1
  simp only [PyData.depth] at h2
  have h3 := depth_at e
  show (d.canLay0 && decide (d.depth ≤ 64)) = true
  rw [Bool.and_eq_true]
  exact ⟨lay_at h1 e, decide_eq_true (by omega)⟩
end
end Dn

/-! Lines, and what is said of them. -/
namespace Rd
open PySem PySem.Spec PyProof.Rows L2 Tq
inductive Ln where
  | go (n : Nat)
  | ift (t p : Str) (n : Nat)
  | look (t p : Str)
  | read (t p : Str)
  deriving DecidableEq
def Ln.vs : Ln → List V
  | .go n => [.str "go", .int n]
  | .ift t p n => [.str "if", .str t, .str p, .int n]
  | .look t p => [.str "look", .str t, .str p]
  | .read t p => [.str "read", .str t, .str p]
def Ln.ds : Ln → List PyData
  | .go n => [.str "go", .int n]
  | .ift t p n => [.str "if", .str t, .str p, .int n]
  | .look t p => [.str "look", .str t, .str p]
  | .read t p => [.str "read", .str t, .str p]
abbrev Ln.d (l : Ln) : PyData := .tuple l.ds
def Ln.word : Ln → Str
  | .go _ => "go"
  | .ift .. => "if"
  | .look .. => "look"
  | .read .. => "read"
/-- table and part -/
def Ln.key : Ln → List Str
  | .go _ => []
  | .ift t p _ => [t, p]
  | .look t p => [t, p]
  | .read t p => [t, p]
def nameS (s : Str) : Bool := decide (1 ≤ s.length) && decide (s.length ≤ 8) && s.cps.toList.all fun c => decide (97 ≤ c) && decide (c ≤ 122)
def nameD : PyData → Bool
  | .str s => nameS s
  | _ => false
def numD (d : PyData) (most : Int) : Bool := match d with
  | .int i => decide (0 ≤ i) && decide (i ≤ most)
  | _ => false
def lineT (ds : List PyData) (many : Int) : Bool :=
  if PyData.eqv (ds.getD 0 .none) (.str "go") = true then decide (ds.length = 2) && numD (ds.getD 1 .none) many
  else if PyData.eqv (ds.getD 0 .none) (.str "if") = true then decide (ds.length = 4) && ((((ds.drop 1).take 2).all nameD) && numD (ds.getD 3 .none) many)
  else (PyData.eqv (.str "read") (ds.getD 0 .none) || (PyData.eqv (.str "look") (ds.getD 0 .none) || false)) && (decide (ds.length = 3) && (ds.drop 1).all nameD)
def lineD (d : PyData) (many : Int) : Bool := match d with
  | .tuple ds => if ds.length < 2 then false else lineT ds many
  | _ => false
/-- a line as drawn -/
def Ln.fine (most : Nat) : Ln → Bool
  | .go n => decide (n ≤ most)
  | .ift t p n => nameS t && (nameS p && decide (n ≤ most))
  | .look t p => nameS t && nameS p
  | .read t p => nameS t && nameS p
theorem eqv_str (x y : Str) : PyData.eqv (.str x) (.str y) = decide (x = y) := by
  simp only [PyData.eqv]
  by_cases h : x = y
  · subst h; simp
  · rw [decide_eq_false h]; exact beq_eq_false_iff_ne.mpr h
theorem lineT_str (x : Str) (r : List PyData) (many : Int) : lineT (.str x :: r) many = (if x = "go" then decide (r.length = 1) && numD (r.getD 0 .none) many
    else if x = "if" then decide (r.length = 3) && (((r.take 2).all nameD) && numD (r.getD 2 .none) many) else (decide (("read" : Str) = x) || decide (("look" : Str) = x)) && (decide (r.length = 2) && r.all nameD)) := by
  unfold lineT
  simp only [List.getD_cons_zero, eqv_str, decide_eq_true_eq, List.length_cons, List.drop_succ_cons, List.drop_zero, List.getD_cons_succ, Bool.or_false, Nat.reduceEqDiff]
theorem ne1 : ¬ (("if" : Str) = "go") := by decide +kernel
theorem ne2 : ¬ (("look" : Str) = "go") := by decide +kernel
theorem ne3 : ¬ (("read" : Str) = "go") := by decide +kernel
theorem ne4 : ¬ (("look" : Str) = "if") := by decide +kernel
theorem ne5 : ¬ (("read" : Str) = "if") := by decide +kernel
theorem ne6 : ¬ (("read" : Str) = "look") := by decide +kernel
theorem fine_line {l : Ln} {most : Nat} (h : l.fine most = true) : lineD l.d most = true := by
  cases l with
  | go n =>
    have h' : n ≤ most := of_decide_eq_true h
    show lineT (.str "go" :: [.int n]) most = true
    rw [lineT_str, if_pos rfl]
    simp [numD]; omega
  | ift t p n =>
    simp only [Ln.fine, Bool.and_eq_true, decide_eq_true_eq] at h
    show lineT (.str "if" :: [.str t, .str p, .int n]) most = true
    rw [lineT_str, if_neg ne1, if_pos rfl]
    simp [numD, nameD, h.1, h.2.1]; omega
  | look t p =>
    simp only [Ln.fine, Bool.and_eq_true] at h
    show lineT (.str "look" :: [.str t, .str p]) most = true
    rw [lineT_str, if_neg ne2, if_neg ne4]
    simp [nameD, h.1, h.2]
  | read t p =>
    simp only [Ln.fine, Bool.and_eq_true] at h
    show lineT (.str "read" :: [.str t, .str p]) most = true
    rw [lineT_str, if_neg ne3, if_neg ne5]
    simp [nameD, h.1, h.2]
theorem nameS_ok {x : Str} (h : nameS x = true) : PyData.strOk x = true := by
  have h1 : (x.cps.toList.all fun c => decide (97 ≤ c) && decide (c ≤ 122)) = true := (Bool.and_eq_true_iff.mp h).2
  show x.cps.all (fun c => decide (c < 0x110000)) = true
  rw [← Array.all_toList]
  refine List.all_eq_true.mpr fun c hc => ?_
  have := List.all_eq_true.mp h1 c hc
  simp only [Bool.and_eq_true, decide_eq_true_eq] at this ⊢
  omega
def Ln.safe (l : Ln) : Prop := ∀ x ∈ l.key, PyData.strOk x = true
theorem fine_safe {l : Ln} {m : Nat} (h : l.fine m = true) : l.safe := by
  intro x hx
  cases l with
  | go n => cases hx
  | ift t p n =>
    simp only [Ln.fine, Bool.and_eq_true] at h
    rcases List.mem_cons.mp hx with rfl | hx
    · exact nameS_ok h.1
    · rw [List.mem_singleton.mp hx]; exact nameS_ok h.2.1
  | look t p =>
    simp only [Ln.fine, Bool.and_eq_true] at h
    rcases List.mem_cons.mp hx with rfl | hx
    · exact nameS_ok h.1
    · rw [List.mem_singleton.mp hx]; exact nameS_ok h.2
  | read t p =>
    simp only [Ln.fine, Bool.and_eq_true] at h
    rcases List.mem_cons.mp hx with rfl | hx
    · exact nameS_ok h.1
    · rw [List.mem_singleton.mp hx]; exact nameS_ok h.2
theorem w_ok : PyData.strOk "go" = true ∧ PyData.strOk "if" = true ∧ PyData.strOk "look" = true ∧ PyData.strOk "read" = true := ⟨by decide +kernel, by decide +kernel, by decide +kernel, by decide +kernel⟩
theorem ln_lay {l : Ln} (h : l.safe) : l.d.canLay0 = true := by
  obtain ⟨w1, w2, w3, w4⟩ := w_ok
  cases l with
  | go n => simp [Ln.d, Ln.ds, PyData.canLay0, PyData.canLayAll0, w1]
  | ift t p n => simp [Ln.d, Ln.ds, PyData.canLay0, PyData.canLayAll0, w2, h t List.mem_cons_self, h p (.tail _ List.mem_cons_self)]
  | look t p => simp [Ln.d, Ln.ds, PyData.canLay0, PyData.canLayAll0, w3, h t List.mem_cons_self, h p (.tail _ List.mem_cons_self)]
  | read t p => simp [Ln.d, Ln.ds, PyData.canLay0, PyData.canLayAll0, w4, h t List.mem_cons_self, h p (.tail _ List.mem_cons_self)]
theorem ln_depth (l : Ln) : l.d.depth ≤ 1 := by cases l <;> simp [Ln.d, Ln.ds, PyData.depth, PyData.depthAll]
theorem ln_shaped {l : Ln} (z : l.safe) : SeqAt.shaped l.d = true := by
  have h := ln_depth l
  show (l.d.canLay0 && decide (l.d.depth ≤ 64)) = true
  rw [Bool.and_eq_true]
  exact ⟨ln_lay z, decide_eq_true (by omega)⟩
theorem lns_lay : ∀ ls : List Ln, (∀ l ∈ ls, l.safe) → PyData.canLayAll0 (ls.map Ln.d) = true
  | [], _ => by simp [PyData.canLayAll0]
  | l :: ls, h => by simp only [List.map_cons, PyData.canLayAll0, ln_lay (h l List.mem_cons_self), lns_lay ls fun k hk => h k (.tail _ hk), Bool.and_true]
theorem lns_depth : ∀ ls : List Ln, PyData.depthAll (ls.map Ln.d) ≤ 1
  | [] => by simp [PyData.depthAll]
  | l :: ls => by
    have h1 := ln_depth l
    have h2 := lns_depth ls
    simp only [List.map_cons, PyData.depthAll]
    omega
abbrev dls (ls : List Ln) : PyData := .tuple (ls.map Ln.d)
theorem dls_shaped {ls : List Ln} (z : ∀ l ∈ ls, l.safe) : SeqAt.shaped (dls ls) = true := by
  have h1 := lns_depth ls
  have h2 : PyData.depth (dls ls) ≤ 64 := by simp only [PyData.depth]; omega
  show (PyData.canLay0 (dls ls) && decide (PyData.depth (dls ls) ≤ 64)) = true
  rw [Bool.and_eq_true]
  exact ⟨by simp only [PyData.canLay0]; exact lns_lay ls z, decide_eq_true h2⟩
theorem eqv_int (m n : Nat) : PyData.eqv (.int m) (.int n) = decide (m = n) := by
  simp only [PyData.eqv]
  by_cases h : m = n
  · subst h; simp
  · rw [decide_eq_false h]; exact beq_eq_false_iff_ne.mpr (by omega)
theorem all_cons (x y : PyData) (xs ys : List PyData) : PyData.eqvAll (x :: xs) (y :: ys) = (PyData.eqv x y && PyData.eqvAll xs ys) := by simp only [PyData.eqvAll]
theorem all_nil : PyData.eqvAll [] [] = true := by simp only [PyData.eqvAll]
theorem all_nc (y : PyData) (ys : List PyData) : PyData.eqvAll [] (y :: ys) = false := by simp only [PyData.eqvAll]
theorem all_cn (y : PyData) (ys : List PyData) : PyData.eqvAll (y :: ys) [] = false := by simp only [PyData.eqvAll]
theorem tup_eqv (xs ys : List PyData) : PyData.eqv (.tuple xs) (.tuple ys) = PyData.eqvAll xs ys := by simp only [PyData.eqv]
theorem ln_eqv (l k : Ln) : PyData.eqv l.d k.d = decide (l = k) := by
  have n1 : decide (("look" : Str) = "read") = false := by decide +kernel
  have n2 : decide (("read" : Str) = "look") = false := by decide +kernel
  cases l <;> cases k <;> simp only [Ln.d, Ln.ds, tup_eqv, all_cons, all_nil, all_nc, all_cn, eqv_str, eqv_int, Bool.and_true, Bool.and_false, n1, n2, Bool.false_and, reduceCtorEq, decide_false, Ln.go.injEq, Ln.ift.injEq, Ln.look.injEq, Ln.read.injEq, Bool.decide_and, decide_true, Bool.true_and]
theorem lns_eqv : ∀ ls ks : List Ln, PyData.eqvAll (ls.map Ln.d) (ks.map Ln.d) = decide (ls = ks)
  | [], [] => by simp [PyData.eqvAll]
  | [], _ :: _ => by simp [PyData.eqvAll]
  | _ :: _, [] => by simp [PyData.eqvAll]
  | l :: ls, k :: ks => by
    rw [List.map_cons, List.map_cons, all_cons, ln_eqv, lns_eqv ls ks]
    by_cases h1 : l = k <;> by_cases h2 : ls = ks <;> simp [h1, h2]
theorem dls_eqv (ls ks : List Ln) : PyData.eqv (dls ls) (dls ks) = decide (ls = ks) := by rw [tup_eqv, lns_eqv]
/-! ### what rises, without repetition, and has just these -/
structure Asc (ks ps : List (List Str)) : Prop where
  up : ps.Pairwise fun x y => tlt x y = true
  mem : ∀ k, k ∈ ps ↔ k ∈ ks
theorem asc_one : ∀ {ps qs : List (List Str)}, ps.Pairwise (fun x y => tlt x y = true) → qs.Pairwise (fun x y => tlt x y = true) → (∀ k, k ∈ ps ↔ k ∈ qs) → ps = qs
  | [], [], _, _, _ => rfl
  | [], q :: qs, _, _, h => absurd ((h q).mpr List.mem_cons_self) (List.not_mem_nil)
  | p :: ps, [], _, _, h => absurd ((h p).mp List.mem_cons_self) (List.not_mem_nil)
  | p :: ps, q :: qs, h1, h2, h => by
    obtain ⟨a1, a2⟩ := List.pairwise_cons.mp h1
    obtain ⟨b1, b2⟩ := List.pairwise_cons.mp h2
    have e : p = q := by
      rcases List.mem_cons.mp ((h p).mp List.mem_cons_self) with z | z
      · exact z
      · rcases List.mem_cons.mp ((h q).mpr List.mem_cons_self) with y | y
        · exact y.symm
        · have c := b1 p z
          have d := a1 q y
          rw [tlt_asym c] at d
          cases d
    subst e
    rw [asc_one a2 b2 fun k => ?_]
    constructor
    · intro z
      rcases List.mem_cons.mp ((h k).mp (.tail _ z)) with y | y
      · subst y; have := a1 k z; rw [tlt_irr] at this; cases this
      · exact y
    · intro z
      rcases List.mem_cons.mp ((h k).mpr (.tail _ z)) with y | y
      · subst y; have := b1 k z; rw [tlt_irr] at this; cases this
      · exact y
theorem Asc.eq {ks ps qs : List (List Str)} (a : Asc ks ps) (b : Asc ks qs) : ps = qs := asc_one a.up b.up fun k => (a.mem k).trans (b.mem k).symm
theorem up_nodup {ps : List (List Str)} (h : ps.Pairwise fun x y => tlt x y = true) : ps.Nodup := List.nodup_iff_pairwise_ne.mpr (h.imp fun {x y} z e => by subst e; rw [tlt_irr] at z; cases z)
structure AscS (ks ps : List Str) : Prop where
  up : ps.Pairwise fun x y => sg1 x < sg1 y
  mem : ∀ k, k ∈ ps ↔ k ∈ ks
theorem ascS_one : ∀ {ps qs : List Str}, ps.Pairwise (fun x y => sg1 x < sg1 y) → qs.Pairwise (fun x y => sg1 x < sg1 y) → (∀ k, k ∈ ps ↔ k ∈ qs) → ps = qs
  | [], [], _, _, _ => rfl
  | [], q :: qs, _, _, h => absurd ((h q).mpr List.mem_cons_self) (List.not_mem_nil)
  | p :: ps, [], _, _, h => absurd ((h p).mp List.mem_cons_self) (List.not_mem_nil)
  | p :: ps, q :: qs, h1, h2, h => by
    obtain ⟨a1, a2⟩ := List.pairwise_cons.mp h1
    obtain ⟨b1, b2⟩ := List.pairwise_cons.mp h2
    have e : p = q := by
      rcases List.mem_cons.mp ((h p).mp List.mem_cons_self) with z | z
      · exact z
      · rcases List.mem_cons.mp ((h q).mpr List.mem_cons_self) with y | y
        · exact y.symm
        · exact absurd (List.lt_trans (b1 p z) (a1 q y)) (List.lt_irrefl _)
    subst e
    rw [ascS_one a2 b2 fun k => ?_]
    constructor
    · intro z
      rcases List.mem_cons.mp ((h k).mp (.tail _ z)) with y | y
      · subst y; exact absurd (a1 k z) (List.lt_irrefl _)
      · exact y
    · intro z
      rcases List.mem_cons.mp ((h k).mpr (.tail _ z)) with y | y
      · subst y; exact absurd (b1 k z) (List.lt_irrefl _)
      · exact y
theorem AscS.eq {ks ps qs : List Str} (a : AscS ks ps) (b : AscS ks qs) : ps = qs := ascS_one a.up b.up fun k => (a.mem k).trans (b.mem k).symm
/-- the pairs of a reader's lines with one of these words -/
def keysOf (ws : List Str) (ls : List Ln) : List (List Str) := (ls.filter fun l => ws.contains l.word).map Ln.key
/-- pairs as data -/
def pD (k : List Str) : PyData := .tuple (k.map PyData.str)
abbrev pDs (ps : List (List Str)) : PyData := .tuple (ps.map pD)
theorem sD_lay : ∀ k : List Str, (∀ x ∈ k, PyData.strOk x = true) → PyData.canLayAll0 (k.map PyData.str) = true
  | [], _ => by simp [PyData.canLayAll0]
  | x :: k, h => by simp only [List.map_cons, PyData.canLayAll0, sD_lay k fun y hy => h y (.tail _ hy), PyData.canLay0, h x List.mem_cons_self, Bool.and_true]
theorem sD_depth : ∀ k : List Str, PyData.depthAll (k.map PyData.str) = 0
  | [] => by simp [PyData.depthAll]
  | x :: k => by simp only [List.map_cons, PyData.depthAll, sD_depth k, PyData.depth]; omega
theorem pD_lay {k : List Str} (h : ∀ x ∈ k, PyData.strOk x = true) : (pD k).canLay0 = true := by simp only [pD, PyData.canLay0]; exact sD_lay k h
theorem pD_depth (k : List Str) : (pD k).depth = 1 := by simp only [pD, PyData.depth, sD_depth]
theorem pDs_lay : ∀ ps : List (List Str), (∀ p ∈ ps, ∀ x ∈ p, PyData.strOk x = true) → PyData.canLayAll0 (ps.map pD) = true
  | [], _ => by simp [PyData.canLayAll0]
  | p :: ps, h => by simp only [List.map_cons, PyData.canLayAll0, pD_lay (h p List.mem_cons_self), pDs_lay ps fun q hq => h q (.tail _ hq), Bool.and_true]
theorem pDs_depth : ∀ ps : List (List Str), PyData.depthAll (ps.map pD) ≤ 1
  | [] => by simp [PyData.depthAll]
  | p :: ps => by
    have h1 := pD_depth p
    have h2 := pDs_depth ps
    simp only [List.map_cons, PyData.depthAll]
    omega
end Rd

namespace Dc
open PySem PySem.Spec PyProof.Rows L2
def top (i : Nat) : Stmt := PySem.Challenge.pw_asunmoved_k16_readers_as_values.main.body.getD i (.Pass ⟨0, 0, 0, 0⟩)
abbrev sDice : Stmt := top 47
abbrev sRoll : Stmt := top 48
abbrev sOne : Stmt := top 49
/-- the generator of numbers stands at p -/
def DiceAt (H : Hp) (p : Addr) : Prop := ∃ a b c : Int, H p = some (.lst [.int a, .int b, .int c]) ∧ 0 ≤ a
/-- all that is tracked is kept, but for the object at p -/
def Keep (p : Addr) (H H' : Hp) : Prop := ∀ b o, b ≠ p → H b = some o → H' b = some o
theorem Keep.refl {p : Addr} {H : Hp} : Keep p H H := fun _ _ _ h => h
theorem Keep.trans {p : Addr} {H H1 H2 : Hp} (a : Keep p H H1) (b : Keep p H1 H2) : Keep p H H2 := fun c o n h => b c o n (a c o n h)
theorem keep_upd {p : Addr} {H : Hp} {o : HO} : Keep p H (upd H p o) := fun b u n h => by rw [upd_ne n]; exact h
theorem keep_new {p q : Addr} {H : Hp} {o : HO} (hq : H q = none) : Keep p H (upd H q o) := fun b u n h => by rw [upd_ne (ne_of_none h hq)]; exact h

theorem DiceAt.upd {p : Addr} {H : Hp} {a b c : Int} (h : 0 ≤ a) : DiceAt (upd H p (.lst [.int a, .int b, .int c])) p := ⟨a, b, c, upd_same, h⟩
structure TxB (K : PySem.W.Frag) (mg : Str → Option Value) : Prop where
  len : mg "len" = none
  int : mg "int" = none
  abs : mg "abs" = none
  max : mg "max" = none
  list : mg "list" = none
  range : mg "range" = none

theorem tt_yes {σ : L2.St} {H : Hp} {A B : Hp → Prop} (h : A H) : tYes σ H (fun b H3 => if b = true then A H3 else B H3) := by
  show (if true = true then A H else B H)
  rw [if_pos rfl]
  exact h
/-- x ** n with a bound by bits -/
theorem op_powB {X : Cx} : OpR X (binaryOp .Pow) (rI (fun i j => 0 ≤ j ∧ (Builtin.Int.intBits i : Int) * j ≤ 2 ^ 27) fun i j => .int (i ^ j.toNat)) :=
  opI fun _ _ _ _ _ _ _ hc q => pow_int hc.1 hc.2 q

def spDice (K : PySem.W.Frag) : Sp := fun vs H Q _ => ∃ (a : Addr) (ns : List Int) (i : Nat), vs = [.ref a, .int (i : Int)] ∧ SqL K H a (ns.map V.int) ∧ i ≤ 1000 ∧
  ∀ (p : Addr) (x y : Int), H p = none → 0 ≤ x → Q (.ref p) (upd H p (.lst [.int x, .int y, .int 0]))
def spRoll : Sp := fun vs H Q _ => ∃ (p : Addr) (n : Int) (a b c : Int), vs = [.ref p, .int n] ∧ H p = some (.lst [.int a, .int b, .int c]) ∧ 0 ≤ a ∧ 0 < n ∧ n < 2 ^ 40 ∧
  ∀ (r x y z : Int), 0 ≤ r → r < n → 0 ≤ x → Q (.int r) (upd H p (.lst [.int x, .int y, .int z]))
section
variable {P : Program} {w : World} {K : PySem.W.Frag} {mg : Str → Option Value} {base : Heap}
theorem scD : FnScope ["_law_script", "_law_at", "_law_cell", "_law_great", "_law_mixed"] ["_law_script", "_law_at"] (defScope sDice) := ⟨rfl, rfl, rfl, by decide +kernel, rfl, by decide +kernel, by decide +kernel⟩
theorem scR : FnScope ["_law_dice_here", "_law_total", "_law_found", "_law_one", "_law_two"] ["_law_dice_here", "_law_total"] (defScope sRoll) := ⟨rfl, rfl, rfl, by decide +kernel, rfl, by decide +kernel, by decide +kernel⟩

theorem big_ne : (((10 : Int) ^ Int.toNat 60) ^ Int.toNat 11) ≠ 0 := by decide +kernel
theorem fmod_in {a n : Int} (h : 0 < n) : 0 ≤ a.fmod n ∧ a.fmod n < n := ⟨Int.fmod_nonneg_of_pos _ h, Int.fmod_lt_of_pos _ h⟩
theorem mul_left_ok {a n : Int} (h : 0 < n) (hn : n < 2 ^ 64) {j : Int} : CMul (a.fmod n) j := .inl ⟨by have := (fmod_in (a := a) h).1; omega, by have := (fmod_in (a := a) h).2; omega⟩
theorem ok_dice {f : Addr} {fd : FuncData} (F : Fun K "_law_dice" "_law_dice" sDice f fd) (T : TxB K mg) : FnOk P w K mg base CX0 1 f fd ["_law_script", "_law_at"] (spDice K) := by
  refine F.ok scD (fun vs H Q E h => ?_) (fun cdv A outer s H vs Q E hr h => ?_)
  · obtain ⟨a, ns, i, rfl, _⟩ := h
    rfl
  · obtain ⟨a, ns, i, rfl, hS, hi, k⟩ := h
    refine ⟨_, pss_cons (ps_set (i := 2) scD.nd rfl (Or.inl rfl) (pe_op op_add (pe_op op_mul pe_int (pv 1)) pe_int))
      (pss_cons (ps_if (pt_cmpR op_lt (pv 1) (pe_callB call_len_seq (by rfl) T.len PySem.boot_len (pa_cons (pv 0) pa_nil)) (nomark _)) (pss_one (ps_set (i := 2) scD.nd rfl (Or.inl rfl) (pe_ix ix_list (pv 0) (pv 1) (fun _ _ => rfl)))) pss_nil)
      (pss_cons (ps_set (i := 3) scD.nd rfl (Or.inl rfl) (pe_op op_modN (pe_callTy call_int1 (by rfl) T.int PyProof.Rows.boot_int (pa_cons (pe_callB call_abs (by rfl) T.abs PyProof.Rows.boot_abs (pa_cons (pv 2) pa_nil)) pa_nil)) (pe_op op_powB (pe_op op_pow pe_int pe_int) pe_int)))
      (pss_cons (ps_set (i := 4) scD.nd rfl (Or.inl rfl) (pe_op op_add (pe_op op_add (pe_op op_add (pe_op op_mul (pe_op op_modN (pe_callTy call_int1 (by rfl) T.int PyProof.Rows.boot_int (pa_cons (pv 3) pa_nil)) pe_int) pe_int) (pe_op op_mul pe_int (pv 1)))
          (pe_op op_mul pe_int (pe_callTy call_int1 (by rfl) T.int PyProof.Rows.boot_int (pa_cons (pe_cmpR op_lt (pv 2) pe_int (nomark _)) pa_nil)))) pe_int))
      (pss_one (ps_ret (pe_lst (pa_cons (pe_callB (call_max2 rfl) (by rfl) T.max PyProof.Rows.boot_max (pa_cons pe_int (pa_cons (pe_op op_sub (pv 3) (pe_op op_pow pe_int pe_int)) pa_nil)))
          (pa_cons (pe_op op_modN (pe_callTy call_int1 (by rfl) T.int PyProof.Rows.boot_int (pa_cons (pv 4) pa_nil)) pe_int) (pa_cons pe_int pa_nil))))))))), ?_⟩
    refine ⟨_, rfl, _, _, rfl, rfl, (.inl ⟨by decide, by decide⟩), _, _, rfl, rfl, ?_⟩
    -- if _law_at < len(_law_script)
    refine ⟨_, rfl, _, rfl, a, _, rfl, .inl hS, _, _, rfl, rfl, _, rfl, ?_⟩
    refine ite2 (fun hlt => ?_) (fun hge => ?_)
    · have hl : i < ns.length := by
        have q := of_decide_eq_true hlt
        rw [List.length_map] at q
        omega
      refine ⟨_, rfl, _, rfl, a, _, _, V.int ns[i], rfl, rfl, hS, atI_nat (by rw [List.getElem?_map, List.getElem?_eq_getElem hl]; rfl), ?_⟩
      refine ⟨_, rfl, _, rfl, .inl ⟨_, rfl, _, _, rfl, rfl, ⟨by decide, by decide, by decide⟩, _, _, rfl, rfl, ⟨by decide, by decide +kernel⟩, _, _, rfl, rfl, big_ne, ?_⟩⟩
      refine ⟨_, rfl, .inl ⟨_, rfl, _, _, rfl, rfl, (show (2147483477 : Int) ≠ 0 by decide), _, _, rfl, rfl, .inr ⟨by decide, by decide⟩, _, rfl, _, _, rfl, rfl, .inl ⟨by decide, by decide⟩, _, _, rfl, rfl,
        _, rfl, _, _, rfl, rfl, .inr ⟨_, rfl, _, _, rfl, rfl, .inl ⟨by decide, by decide⟩, _, _, rfl, rfl, _, _, rfl, rfl, ?_⟩⟩⟩
      refine ⟨_, rfl, _, _, rfl, rfl, ⟨by decide, by decide, by decide⟩, _, _, rfl, rfl, _, _, rfl, _, rfl, .inl ⟨_, rfl, _, _, rfl, rfl, (show (2147483399 : Int) ≠ 0 by decide), (by show 3 ≤ sizeLine; decide), fun p hp => ?_⟩⟩
      exact k p _ _ hp (by split <;> omega)
    · refine ⟨_, rfl, _, rfl, .inl ⟨_, rfl, _, _, rfl, rfl, ⟨by decide, by decide, by decide⟩, _, _, rfl, rfl, ⟨by decide, by decide +kernel⟩, _, _, rfl, rfl, big_ne, ?_⟩⟩
      refine ⟨_, rfl, .inl ⟨_, rfl, _, _, rfl, rfl, (show (2147483477 : Int) ≠ 0 by decide), _, _, rfl, rfl, .inr ⟨by decide, by decide⟩, _, rfl, _, _, rfl, rfl, .inl ⟨by decide, by decide⟩, _, _, rfl, rfl,
        _, rfl, _, _, rfl, rfl, .inr ⟨_, rfl, _, _, rfl, rfl, .inl ⟨by decide, by decide⟩, _, _, rfl, rfl, _, _, rfl, rfl, ?_⟩⟩⟩
      refine ⟨_, rfl, _, _, rfl, rfl, ⟨by decide, by decide, by decide⟩, _, _, rfl, rfl, _, _, rfl, _, rfl, .inl ⟨_, rfl, _, _, rfl, rfl, (show (2147483399 : Int) ≠ 0 by decide), (by show 3 ≤ sizeLine; decide), fun p hp => ?_⟩⟩
      exact k p _ _ hp (by split <;> omega)
theorem ok_roll {f : Addr} {fd : FuncData} (F : Fun K "_law_roll" "_law_roll" sRoll f fd) (T : TxB K mg) : FnOk P w K mg base CX0 1 f fd ["_law_dice_here", "_law_total"] spRoll := by
  refine F.ok scR (fun vs H Q E h => ?_) (fun cdv A outer s H vs Q E hr h => ?_)
  · obtain ⟨p, n, a, b, c, rfl, _⟩ := h
    rfl
  · obtain ⟨p, n, a, b, c, rfl, hp, ha, hn, hn2, k⟩ := h
    refine ⟨_, pss_cons (ps_if (pt_cmpR op_gt (pe_ix ix_list (pv 0) pe_int (fun _ _ => rfl)) pe_int (nomark _))
        (pss_cons (ps_set (i := 2) scR.nd rfl (Or.inl rfl) (pe_op op_modN (pe_callTy call_int1 (by rfl) T.int PyProof.Rows.boot_int (pa_cons (pe_ix ix_list (pv 0) pe_int (fun _ _ => rfl)) pa_nil)) (pv 1)))
        (pss_cons (ps_asg (pe_op op_fdivW (pe_ix ix_list (pv 0) pe_int (fun _ _ => rfl)) (pv 1)) (pg_sub (pv 0) pe_int set_list))
        (pss_one (ps_ret (pv 2))))) pss_nil)
      (pss_cons (ps_asg (pe_op op_add (pe_ix ix_list (pv 0) pe_int (fun _ _ => rfl)) pe_int) (pg_sub (pv 0) pe_int set_list))
      (pss_cons (ps_set (i := 3) scR.nd rfl (Or.inl rfl) (pe_op op_modN (pe_callTy call_int1 (by rfl) T.int PyProof.Rows.boot_int (pa_cons (pe_op op_add (pe_ix ix_list (pv 0) pe_int (fun _ _ => rfl)) (pe_op op_mul pe_int (pe_ix ix_list (pv 0) pe_int (fun _ _ => rfl)))) pa_nil)) pe_int))
      (pss_cons (ps_set (i := 4) scR.nd rfl (Or.inl rfl) (pe_op op_add (pe_op op_mul (pe_op op_modN (pe_callTy call_int1 (by rfl) T.int PyProof.Rows.boot_int (pa_cons (pe_op op_mul (pv 3) (pv 3)) pa_nil)) pe_int) (pv 3)) (pe_op op_mul pe_int (pe_ix ix_list (pv 0) pe_int (fun _ _ => rfl)))))
      (pss_cons (ps_set (i := 4) scR.nd rfl (Or.inl rfl) (pe_op op_modN (pe_callTy call_int1 (by rfl) T.int PyProof.Rows.boot_int (pa_cons (pv 4) pa_nil)) pe_int))
      (pss_one (ps_ret (pe_op op_modN (pe_callTy call_int1 (by rfl) T.int PyProof.Rows.boot_int (pa_cons (pe_op op_fdiv (pv 4) pe_int) pa_nil)) (pv 1)))))))), ?_⟩
    refine ⟨_, rfl, p, _, 0, _, rfl, rfl, .of hp, atI_nat (j := 0) rfl, _, _, rfl, rfl, _, rfl, ?_⟩
    refine ite2 (fun hgt => ?_) (fun hle => ?_)
    · refine ⟨_, rfl, p, _, 0, _, rfl, rfl, .of hp, atI_nat (j := 0) rfl, .inl ⟨_, rfl, _, rfl, _, _, rfl, rfl, (show n ≠ 0 by omega), ?_⟩⟩
      refine ⟨_, rfl, p, _, 0, _, rfl, rfl, .of hp, atI_nat (j := 0) rfl, _, rfl, _, _, rfl, rfl, wide_div hn (b := 40) (by omega) (by decide) (by decide), _, rfl, p, _, _, 0, rfl, rfl, hp, rfl, _, rfl, ?_⟩
      exact k _ _ _ _ (fmod_in hn).1 (fmod_in hn).2 (Int.ediv_nonneg ha (by omega))
    · refine ⟨_, rfl, p, _, 2, _, rfl, rfl, .of hp, atI_nat (j := 2) rfl, _, _, rfl, rfl, _, rfl, p, _, _, 2, rfl, rfl, hp, rfl, ?_⟩
      have hp2 : upd H p (HO.lst [V.int a, V.int b, V.int (c + 1)]) p = some (HO.lst [V.int a, V.int b, V.int (c + 1)]) := upd_same
      refine ⟨_, rfl, p, _, 1, _, rfl, rfl, .of hp2, atI_nat (j := 1) rfl, _, rfl, p, _, 2, _, rfl, rfl, .of hp2, atI_nat (j := 2) rfl, _, _, rfl, rfl, .inl ⟨by decide, by decide⟩, _, _, rfl, rfl, .inl ⟨_, rfl, _, _, rfl, rfl, (show (2305843009213693951 : Int) ≠ 0 by decide), ?_⟩⟩
      refine ⟨_, rfl, _, rfl, _, _, rfl, rfl, mul_left_ok (by decide) (by decide), .inl ⟨_, rfl, _, _, rfl, rfl, (show (2305843009213693921 : Int) ≠ 0 by decide), _, rfl, _, _, rfl, rfl, mul_left_ok (by decide) (by decide),
        _, rfl, p, _, 2, _, rfl, rfl, .of hp2, atI_nat (j := 2) rfl, _, _, rfl, rfl, .inl ⟨by decide, by decide⟩, _, _, rfl, rfl, ?_⟩⟩
      refine ⟨_, rfl, .inl ⟨_, rfl, _, _, rfl, rfl, (show (2305843009213693907 : Int) ≠ 0 by decide), ?_⟩⟩
      refine ⟨_, rfl, _, _, rfl, rfl, ⟨by decide, by decide⟩, .inl ⟨_, rfl, _, rfl, _, _, rfl, rfl, (show n ≠ 0 by omega), ?_⟩⟩
      exact k _ _ _ _ (fmod_in hn).1 (fmod_in hn).2 ha
/-! ### one of a list, a text, a number -/
structure TxD (K : PySem.W.Frag) (mg : Str → Option Value) (P : Program) (w : World) (base : Heap) : Prop extends TxB K mg where
  roll : ∃ f fd, mg "_law_roll" = some (.ref f) ∧ PySem.W.keepIn K (.ref f) = true ∧ Binds K fd ["_law_dice_here", "_law_total"] [] ∧ FnOk P w K mg base CX0 1 f fd ["_law_dice_here", "_law_total"] spRoll
def spOne : Sp := fun vs H Q _ => ∃ (p l : Addr) (xs : List V), vs = [.ref p, .ref l] ∧ DiceAt H p ∧ H l = some (.lst xs) ∧ l ≠ p ∧ 0 < xs.length ∧ xs.length < 1000 ∧
  ∀ (i : Nat) (x : V) (a b c : Int), xs[i]? = some x → 0 ≤ a → Q x (upd H p (.lst [.int a, .int b, .int c]))
theorem scO : FnScope ["_law_dice_here", "_law_items"] ["_law_dice_here", "_law_items"] (defScope sOne) := ⟨rfl, rfl, rfl, by decide +kernel, rfl, by decide +kernel, by decide +kernel⟩
theorem ok_one {f : Addr} {fd : FuncData} (F : Fun K "_law_one_of" "_law_one_of" sOne f fd) (T : TxD K mg P w base) : FnOk P w K mg base CX0 2 f fd ["_law_dice_here", "_law_items"] spOne := by
  obtain ⟨fR, fdR, mR, kR, bR, GR⟩ := T.roll
  refine F.ok scO (fun vs H Q E h => ?_) (fun cdv A outer s H vs Q E hr h => ?_)
  · obtain ⟨p, l, xs, rfl, _⟩ := h
    rfl
  · obtain ⟨p, l, xs, rfl, ⟨a, b, c, hp, ha⟩, hl, hne, h0, h1, k⟩ := h
    refine ⟨_, pss_one (ps_ret (pe_ix ix_list (pv 1) (pe_call GR hr (by rfl) mR kR bR .nil pass0 (pa_cons (pv 0) (pa_cons (pe_callB call_len_seq (by rfl) T.len PySem.boot_len (pa_cons (pv 1) pa_nil)) pa_nil))) (fun _ _ => rfl))), ?_⟩
    refine ⟨_, rfl, _, rfl, _, rfl, l, _, rfl, .inl (SqL.of hl), p, _, a, b, c, rfl, hp, ha, by omega, by omega, fun r x y z h2 h3 h4 => ?_⟩
    obtain ⟨j, rfl⟩ : ∃ j : Nat, r = (j : Int) := ⟨r.toNat, by omega⟩
    have hj : j < xs.length := by omega
    exact ⟨l, _, j, xs[j], rfl, rfl, SqL.of (by rw [upd_ne hne]; exact hl), atI_nat (List.getElem?_eq_getElem hj), k j _ _ _ _ (List.getElem?_eq_getElem hj) h4⟩

structure TxE (K : PySem.W.Frag) (mg : Str → Option Value) (P : Program) (w : World) (base : Heap) : Prop extends TxD K mg P w base where
  one : ∃ f fd, mg "_law_one_of" = some (.ref f) ∧ PySem.W.keepIn K (.ref f) = true ∧ Binds K fd ["_law_dice_here", "_law_items"] [] ∧ FnOk P w K mg base CX0 2 f fd ["_law_dice_here", "_law_items"] spOne
end
end Dc

/-! The small defs: names, numbers. -/
namespace Rd
open PySem PySem.Spec PyProof.Rows L2 Tq Dn Dc
theorem same_new {H : Hp} {p : Addr} {o : HO} (h : H p = none) : Same H (upd H p o) := fun b u e => by (rw [upd_ne (ne_of_none e h)]; exact e)
theorem same_to {H H' : Hp} {p : Addr} {o : HO} (hp : H p = none) (h : Same H H') : Same H (upd H' p o) := fun b u e => by rw [upd_ne (ne_of_none e hp)]; exact h b u e
theorem same_keep {H H' : Hp} {p : Addr} (h : Same H H') : Keep p H H' := fun b o _ e => h b o e
/-- a list is being filled at D: what stands elsewhere is kept -/
theorem off_seq {K : PySem.W.Frag} {D a : Addr} {H H' : Hp} {l xs : List V} (hD : H D = some (.lst l)) (k : Keep D H H') (h : SqT K H a xs) : SqT K H' a xs := by
  rcases h with (h | ⟨o, h⟩) | h
  · exact .inl (.inl (k a _ (fun e => by subst e; rw [hD] at h; cases h) h))
  · exact .inl (.inr ⟨o, k a _ (fun e => by subst e; rw [hD] at h; cases h) h⟩)
  · exact .inr h
/-- what is said of the list at D, i turns done -/
def Fil (H1 : Hp) (D : Addr) (P : Nat → List V → Hp → Prop) (i : Nat) (H : Hp) : Prop := Same H1 H ∧ ∃ acc, H D = some (.lst acc) ∧ P i acc H
/-- .. where one more item y is put -/
def Put (H1 : Hp) (D : Addr) (P : Nat → List V → Hp → Prop) (i : Nat) (y : V) (H : Hp) : Prop := ∃ acc, H D = some (.lst acc) ∧ acc.length < sizeLine ∧ Fil H1 D P i (upd H D (.lst (acc ++ [y])))
def Off (D : Addr) (P : Nat → List V → Hp → Prop) : Prop := ∀ i acc l H H', H D = some (.lst l) → Keep D H H' → P i acc H → P i acc H'
theorem put_of {H1 H H4 : Hp} {D : Addr} {P : Nat → List V → Hp → Prop} {i : Nat} {y : V} {acc : List V} (nD : H1 D = none) (off : Off D P) (s : Same H1 H) (e : H D = some (.lst acc)) (s4 : Same H H4) (l : acc.length < sizeLine) (p : P i (acc ++ [y]) H4) : Put H1 D P i y H4 :=
  ⟨acc, s4 _ _ e, l, same_to nD (s.trans s4), acc ++ [y], upd_same, off _ _ acc _ _ (s4 _ _ e) keep_upd p⟩
theorem fil_of {H1 H H4 : Hp} {D : Addr} {P : Nat → List V → Hp → Prop} {i : Nat} {acc : List V} (s : Same H1 H) (e : H D = some (.lst acc)) (s4 : Same H H4) (p : P i acc H4) : Fil H1 D P i H4 := ⟨s.trans s4, acc, s4 _ _ e, p⟩
/-- a comprehension over a walk -/
theorem lc_fil {J : It} {n : Nat} {G : Hp → Prop} {Y : Nat → Hp → V → Hp → Prop} (w : Walk J n G Y) {g : TG} {tt : TT} {te : TE} {vs : List Nat} {σ : L2.St} {H1 : Hp} {D : Addr} {Qd : Hp → Prop} (nD : H1 D = none) (P : Nat → List V → Hp → Prop)
    (p0 : P 0 [] (upd H1 D (.lst []))) (hG : ∀ H, Same H1 H → G H)
    (hs : ∀ i x acc H H', i < n → Same H1 H → H D = some (.lst acc) → P i acc H → Y i H x H' → g x (wipe σ vs) H' fun σ2 H2 => wipe σ2 vs = wipe σ vs ∧ tt σ2 H2 fun b H3 =>
      if b = true then te σ2 H3 fun y H4 => Put H1 D P (i + 1) y H4 else Fil H1 D P (i + 1) H3)
    (hd : ∀ acc H, Same H1 H → H D = some (.lst acc) → P n acc H → Qd H) :
    ∃ W : Nat → Nat → Hp → Prop, (∃ m, W 0 m (upd H1 D (.lst []))) ∧ ∀ i m H, W i m H →
      (J.stop i H ∧ Qd H) ∨ (J.go i H ∧ ∃ Nx : Hp → Prop, (∀ H', Nx H' → ∃ m', m' < m ∧ W (i + 1) m' H') ∧ ∀ x H', J.yld i H x H' → g x (wipe σ vs) H' fun σ2 H2 => wipe σ2 vs = wipe σ vs ∧ tt σ2 H2 fun b H3 =>
        if b = true then te σ2 H3 fun y H4 => ∃ acc, H4 D = some (.lst acc) ∧ acc.length < sizeLine ∧ Nx (upd H4 D (.lst (acc ++ [y]))) else Nx H3) :=
  lc_it w (Fil H1 D P) ⟨same_new nD, [], upd_same, p0⟩ (fun i H _ z => hG H z.1) (fun i x H H' hi ⟨s, acc, e, p⟩ y => hs i x acc H H' hi s e p y) fun H ⟨s, acc, e, p⟩ => hd acc H s e p
/-! ### the text -/
abbrev sName : Stmt := top 2
abbrev sAsc : Stmt := top 5
abbrev sWhole : Stmt := top 6
abbrev sNumb : Stmt := top 7
abbrev sWithin : Stmt := top 8
abbrev sNames : Stmt := top 40
abbrev sLine : Stmt := top 41
abbrev sPairs : Stmt := top 42
/-- the built-ins that are not names of the module -/
structure TxM (K : PySem.W.Frag) (mg : Str → Option Value) : Prop extends TxB K mg where
  all : mg "all" = none
  isi : mg "isinstance" = none
  str : mg "str" = none
  bool : mg "bool" = none
  tuple : mg "tuple" = none
  sorted : mg "sorted" = none
  set : mg "set" = none
  min : mg "min" = none
  enum : mg "enumerate" = none
  dict : mg "dict" = none
  repr : mg "repr" = none
/-! ### kinds of data -/
def tyD : PyData → String
  | .none => "NoneType"
  | .bool _ => "bool"
  | .int _ => "int"
  | .str _ => "str"
  | .list _ => "list"
  | .tuple _ => "tuple"
  | .dict _ => "dict"
theorem dp_ty {K : PySem.W.Frag} {H : Hp} {v : V} {d : PyData} (h : Dp K H v d) : TyX K H v (.type (tyD d)) := by
  cases h with
  | non => exact .base .non
  | bl b => exact .base (.bl b)
  | int i => exact .base (.int i)
  | str x => exact .base (.str x)
  | lst h a =>
    rcases h with (h | ⟨o, h⟩) | ⟨o, its, n, h1, h2, _⟩
    · exact .base (.lst h)
    · exact .base (.frz h)
    · exact .kList h1 h2
  | tup h a =>
    rcases h with (h | ⟨o, h⟩) | ⟨o, its, n, h1, h2, _⟩
    · exact .base (.tup h)
    · exact .fTuple h
    · exact .kTuple h1 h2
def isD (t : String) (d : PyData) : Bool := decide (tyD d = t)
def tys : List String := ["NoneType", "bool", "int", "str", "list", "tuple", "dict"]
theorem mem_ty (d : PyData) : tyD d ∈ tys := by cases d <;> simp [tyD, tys]
theorem kit_str (d : PyData) : kitB (tyD d) "str" = some (isD "str" d) := (by decide +kernel : ∀ t ∈ tys, kitB t "str" = some (decide (t = "str"))) _ (mem_ty d)
theorem kit_tup (d : PyData) : kitB (tyD d) "tuple" = some (isD "tuple" d) := (by decide +kernel : ∀ t ∈ tys, kitB t "tuple" = some (decide (t = "tuple"))) _ (mem_ty d)
theorem kit_bool (d : PyData) : kitB (tyD d) "bool" = some (isD "bool" d) := (by decide +kernel : ∀ t ∈ tys, kitB t "bool" = some (decide (t = "bool"))) _ (mem_ty d)
theorem kit_int (d : PyData) : kitB (tyD d) "int" = some (isD "int" d || isD "bool" d) := (by decide +kernel : ∀ t ∈ tys, kitB t "int" = some (decide (t = "int") || decide (t = "bool"))) _ (mem_ty d)
theorem isD_str {d : PyData} : isD "str" d = true → ∃ x, d = .str x := by intro h; cases d <;> first | exact ⟨_, rfl⟩ | (exact absurd h (by simp [isD, tyD]))
theorem isD_tup {d : PyData} : isD "tuple" d = true → ∃ x, d = .tuple x := by intro h; cases d <;> first | exact ⟨_, rfl⟩ | (exact absurd h (by simp [isD, tyD]))
theorem isD_int {d : PyData} : isD "int" d = true → ∃ x, d = .int x := by intro h; cases d <;> first | exact ⟨_, rfl⟩ | (exact absurd h (by simp [isD, tyD]))
/-! ### promises -/
def spName (K : PySem.W.Frag) : Sp := fun vs H Q _ => ∃ v d, vs = [v] ∧ Dp K H v d ∧ (∀ s, d = .str s → s.cps.size < sizeLine) ∧ ∀ H', Same H H' → Q (.bl (nameD d)) H'
section
variable {P : Program} {w : World} {K : PySem.W.Frag} {mg : Str → Option Value} {base : Heap}
theorem scNm : FnScope ["value", "letter"] ["value"] (defScope sName) := ⟨rfl, rfl, rfl, by decide +kernel, rfl, by decide +kernel, by decide +kernel⟩
theorem letter_lo (c : Nat) : (!decide ((⟨#[c]⟩ : Str).cps.toList < (("a" : Str)).cps.toList)) = decide (97 ≤ c) := by
  show (!decide ([c] < [97])) = _
  rw [← ltCps_eq, Bool.eq_iff_iff]
  simp [ltCps]
theorem letter_hi (c : Nat) : (!decide (((("z" : Str)).cps.toList) < (⟨#[c]⟩ : Str).cps.toList)) = decide (c ≤ 122) := by
  show (!decide ([122] < [c])) = _
  rw [← ltCps_eq, Bool.eq_iff_iff]
  simp [ltCps]
theorem ok_name {f : Addr} {fd : FuncData} (F : Fun K "is_name" "is_name" sName f fd) (T : TxM K mg) : FnOk P w K mg base CX0 1 f fd ["value"] (spName K) := by
  refine F.ok scNm (fun vs H Q E h => ?_) (fun cdv A outer s H vs Q E hr h => ?_)
  · obtain ⟨v, d, rfl, _⟩ := h; rfl
  · obtain ⟨v, d, rfl, hd, hz, k⟩ := h
    refine ⟨_, pss_cons (ps_if (PW.pt (pw_or (pt_not (pt_val (pe_callB call_isi (by rfl) T.isi PyProof.Rows.boot_isinstance (pa_cons (pv 0) (pa_cons (pe_bltn (v := .ty "str") (by rfl) T.str (by decide +kernel) rfl) pa_nil)))))
        (pw_or1 (pt_not (pt_chain op_le op_le pe_int (pe_callB call_len_str (by rfl) T.len PySem.boot_len (pa_cons (pv 0) pa_nil)) pe_int))))) (pss_one (ps_ret pe_bl)) pss_nil)
      (pss_one (ps_ret (pe_callB (cr_all rfl) (by rfl) T.all (by decide +kernel) (pa_cons (pe_lc (own := [("letter", 1)]) (g := gName 1) (tt := tYes) rfl scNm.nd (pi_str (pv 0))
        (blkOk_by (N := ["value", "letter"]) (sc := defScope sName) (by decide +kernel)) (fun _ _ _ _ _ => pg_name (i := 1) scNm.nd rfl (Or.inl rfl)) (fun _ _ _ _ _ => pts_nil)
        (fun _ _ _ _ _ => pe_chain op_le_str op_le_str pe_str (pv 1) pe_str)) pa_nil)))), ?_⟩
    refine ⟨_, rfl, v, .ty "str", .type (tyD d), .type "str", isD "str" d, rfl, .ty _, dp_ty hd, kit_ty (kit_str d), _, rfl, ?_⟩
    cases hs : isD "str" d with
    | false =>
      refine iteT (iteT ?_)
      have e : nameD d = false := by cases d <;> first | rfl | (exact absurd hs (by simp [isD, tyD]))
      have := k H (Same.refl H)
      rw [e] at this
      exact this
    | true =>
      obtain ⟨x, rfl⟩ := isD_str hs
      cases hd
      have hx : x.cps.size < sizeLine := hz x rfl
      refine iteF ?_
      refine ⟨_, rfl, x, rfl, Nat.le_of_lt hx, _, _, rfl, rfl, _, rfl, ?_⟩
      have low : decide (1 ≤ (x.length : Int)) = decide (1 ≤ x.length) := by simp; omega
      have hgh : decide ((x.length : Int) ≤ 8) = decide (x.length ≤ 8) := by simp; omega
      rw [low]
      refine ite2 (fun h1 => ?_) (fun h1 => ?_)
      · refine ⟨_, _, rfl, rfl, _, rfl, ?_⟩
        show (if (!decide ((x.length : Int) ≤ 8)) = true then _ else _)
        rw [hgh]
        refine ite2 (fun h2 => ?_) (fun h2 => ?_)
        · have := k H (Same.refl H)
          have e : nameD (.str x) = false := by
            show nameS x = false
            unfold nameS
            rw [(by simpa using h2 : decide (x.length ≤ 8) = false)]; simp
          rw [e] at this
          exact this
        · refine ⟨_, rfl, x, rfl, fun D hD => ?_⟩
          have hlen : ∀ i, ((x.cps.toList.take i).map fun c => V.bl (decide (97 ≤ c) && decide (c ≤ 122))).length ≤ x.cps.size := fun i => by rw [List.length_map, List.length_take, Array.length_toList]; omega
          refine lc_fil walk_str hD (fun i acc _ => acc = (x.cps.toList.take i).map fun c => V.bl (decide (97 ≤ c) && decide (c ≤ 122))) (by simp) (fun _ _ => trivial) ?_ ?_
          · rintro i v acc H2 H3 hi s2 e2 rfl ⟨rfl, c, hc, rfl⟩
            refine ⟨rfl, tt_yes ?_⟩
            have nx : x.cps.toList.take (i + 1) = x.cps.toList.take i ++ [c] := by rw [List.take_add_one, Array.getElem?_toList, hc]; rfl
            have off : Off D (fun i acc (_ : Hp) => acc = (x.cps.toList.take i).map fun c => V.bl (decide (97 ≤ c) && decide (c ≤ 122))) := fun _ _ _ _ _ _ _ z => z
            refine ⟨_, rfl, _, _, rfl, rfl, _, rfl, ?_⟩
            rw [letter_lo]
            have step : ∀ b : Bool, b = (decide (97 ≤ c) && decide (c ≤ 122)) → Put H D (fun i acc (_ : Hp) => acc = (x.cps.toList.take i).map fun c => V.bl (decide (97 ≤ c) && decide (c ≤ 122))) (i + 1) (.bl b) H3 := fun b hb =>
              put_of hD off s2 e2 (Same.refl _) (Nat.lt_of_le_of_lt (hlen i) hx) (by rw [nx, List.map_append, hb]; rfl)
            refine ite2 (fun h3 => ?_) (fun h3 => ?_)
            · refine ⟨_, _, rfl, rfl, ?_⟩
              rw [letter_hi]
              exact step _ (by rw [h3]; simp)
            · exact step _ (by rw [(by simpa using h3 : decide (97 ≤ c) = false)]; simp)
          · rintro acc H2 s2 e2 rfl
            refine ⟨D, (x.cps.toList.map fun c => decide (97 ≤ c) && decide (c ≤ 122)), rfl, SqL.of (by rw [e2, ← Array.length_toList, List.take_length, List.map_map]; rfl), ?_⟩
            have e : nameD (.str x) = ((x.cps.toList.map fun c => decide (97 ≤ c) && decide (c ≤ 122)).all id) := by
              show nameS x = _
              unfold nameS
              rw [h1, (by simpa using h2 : decide (x.length ≤ 8) = true), List.all_map]; rfl
            rw [← e]
            exact k _ s2
      · refine ⟨_, rfl, ?_⟩
        refine iteT ?_
        have := k H (Same.refl H)
        have e : nameD (.str x) = false := by
          show nameS x = false
          unfold nameS
          rw [(by simpa using h1 : decide (1 ≤ x.length) = false)]; simp
        rw [e] at this
        exact this
end
end Rd

namespace Rd
open PySem PySem.Spec PyProof.Rows L2 Tq Dn Dc
def posD : PyData → Bool
  | .int i => decide (0 ≤ i)
  | _ => false
abbrev Small (ds : List PyData) : Prop := ∀ s, PyData.str s ∈ ds → s.cps.size < sizeLine
def spWhole (K : PySem.W.Frag) : Sp := fun vs H Q _ => ∃ v d, vs = [v] ∧ Dp K H v d ∧ Q (.bl (isD "int" d)) H
def spNumb (K : PySem.W.Frag) : Sp := fun vs H Q _ => ∃ v d, vs = [v] ∧ Dp K H v d ∧ Q (.bl (posD d)) H
def spWithin (K : PySem.W.Frag) : Sp := fun vs H Q _ => ∃ v d m, vs = [v, .int m] ∧ Dp K H v d ∧ Q (.bl (numD d m)) H
def spNames (K : PySem.W.Frag) : Sp := fun vs H Q _ => ∃ a xs ds, vs = [.ref a] ∧ SqT K H a xs ∧ DpAll K H xs ds ∧ Small ds ∧ ds.length ≤ 100 ∧ ∀ H', Same H H' → Q (.bl (ds.all nameD)) H'
/-- a def of the module, with its promise -/
abbrev Has (P : Program) (w : World) (K : PySem.W.Frag) (mg : Str → Option Value) (base : Heap) (x : Str) (k : Nat) (ps : List Str) (sp : Sp) : Prop :=
  ∃ f fd, mg x = some (.ref f) ∧ PySem.W.keepIn K (.ref f) = true ∧ Binds K fd ps [] ∧ FnOk P w K mg base CX0 k f fd ps sp
section
variable {P : Program} {w : World} {K : PySem.W.Frag} {mg : Str → Option Value} {base : Heap}
theorem scWh : FnScope ["value"] ["value"] (defScope sWhole) := ⟨rfl, rfl, rfl, by decide +kernel, rfl, by decide +kernel, by decide +kernel⟩
theorem ok_whole {f : Addr} {fd : FuncData} (F : Fun K "is_whole_number" "is_whole_number" sWhole f fd) (T : TxM K mg) : FnOk P w K mg base CX0 1 f fd ["value"] (spWhole K) := by
  refine F.ok scWh (fun vs H Q E h => ?_) (fun cdv A outer s H vs Q E hr h => ?_)
  · obtain ⟨v, d, rfl, _⟩ := h; rfl
  · obtain ⟨v, d, rfl, hd, k⟩ := h
    refine ⟨_, pss_one (ps_ret (pe_and (pe_callB call_isi (by rfl) T.isi PyProof.Rows.boot_isinstance (pa_cons (pv 0) (pa_cons (pe_bltn (v := .ty "int") (by rfl) T.int (by decide +kernel) rfl) pa_nil)))
      (pe_one (pe_not (pe_callB call_isi (by rfl) T.isi PyProof.Rows.boot_isinstance (pa_cons (pv 0) (pa_cons (pe_bltn (v := .ty "bool") (by rfl) T.bool (by decide +kernel) rfl) pa_nil))))))), ?_⟩
    refine ⟨_, rfl, v, .ty "int", .type (tyD d), .type "int", _, rfl, .ty _, dp_ty hd, kit_ty (kit_int d), _, rfl, ?_⟩
    have e : ∀ a b : Bool, (isD "int" d = (a && !b)) → (a = (isD "int" d || isD "bool" d)) → (b = isD "bool" d) → True := fun _ _ _ _ _ => trivial
    cases h1 : isD "int" d with
    | true =>
      have h2 : isD "bool" d = false := by obtain ⟨i, rfl⟩ := isD_int h1; rfl
      refine iteT ⟨_, rfl, v, .ty "bool", .type (tyD d), .type "bool", _, rfl, .ty _, dp_ty hd, kit_ty (kit_bool d), _, rfl, ?_⟩
      rw [h2]; rw [h1] at k; exact k
    | false =>
      rw [h1] at k
      cases h2 : isD "bool" d with
      | true =>
        refine iteT ⟨_, rfl, v, .ty "bool", .type (tyD d), .type "bool", _, rfl, .ty _, dp_ty hd, kit_ty (kit_bool d), _, rfl, ?_⟩
        rw [h2]; exact k
      | false => exact iteF k
/-- what the small defs need -/
structure TxN (K : PySem.W.Frag) (mg : Str → Option Value) (P : Program) (w : World) (base : Heap) : Prop extends TxM K mg where
  whole : Has P w K mg base "is_whole_number" 1 ["value"] (spWhole K)
  numb : Has P w K mg base "is_number" 2 ["value"] (spNumb K)
  within_ : Has P w K mg base "is_number_within" 3 ["value", "most"] (spWithin K)
  name : Has P w K mg base "is_name" 1 ["value"] (spName K)
theorem scNb : FnScope ["value"] ["value"] (defScope sNumb) := ⟨rfl, rfl, rfl, by decide +kernel, rfl, by decide +kernel, by decide +kernel⟩
theorem ok_numb {f : Addr} {fd : FuncData} (F : Fun K "is_number" "is_number" sNumb f fd) (hw : Has P w K mg base "is_whole_number" 1 ["value"] (spWhole K)) : FnOk P w K mg base CX0 2 f fd ["value"] (spNumb K) := by
  obtain ⟨g, gd, mG, kG, bG, GG⟩ := hw
  refine F.ok scNb (fun vs H Q E h => ?_) (fun cdv A outer s H vs Q E hr h => ?_)
  · obtain ⟨v, d, rfl, _⟩ := h; rfl
  · obtain ⟨v, d, rfl, hd, k⟩ := h
    refine ⟨_, pss_one (ps_ret (pe_and (pe_call GG hr (by rfl) mG kG bG .nil pass0 (pa_cons (pv 0) pa_nil)) (pe_one (pe_cmpR op_ge (pv 0) pe_int (nomark _))))), ?_⟩
    refine ⟨_, rfl, v, d, rfl, hd, _, rfl, ?_⟩
    cases h1 : isD "int" d with
    | true =>
      obtain ⟨i, rfl⟩ := isD_int h1
      cases hd
      refine iteT ⟨_, rfl, _, _, rfl, rfl, ?_⟩
      exact k
    | false =>
      have e : posD d = false := by cases d <;> first | rfl | (exact absurd h1 (by simp [isD, tyD]))
      rw [e] at k
      exact iteF k
theorem scWi : FnScope ["value", "most"] ["value", "most"] (defScope sWithin) := ⟨rfl, rfl, rfl, by decide +kernel, rfl, by decide +kernel, by decide +kernel⟩
theorem ok_within {f : Addr} {fd : FuncData} (F : Fun K "is_number_within" "is_number_within" sWithin f fd) (hw : Has P w K mg base "is_number" 2 ["value"] (spNumb K)) : FnOk P w K mg base CX0 3 f fd ["value", "most"] (spWithin K) := by
  obtain ⟨g, gd, mG, kG, bG, GG⟩ := hw
  refine F.ok scWi (fun vs H Q E h => ?_) (fun cdv A outer s H vs Q E hr h => ?_)
  · obtain ⟨v, d, m, rfl, _⟩ := h; rfl
  · obtain ⟨v, d, m, rfl, hd, k⟩ := h
    refine ⟨_, pss_one (ps_ret (pe_and (pe_call GG hr (by rfl) mG kG bG .nil pass0 (pa_cons (pv 0) pa_nil)) (pe_one (pe_cmpR op_le (pv 0) (pv 1) (nomark _))))), ?_⟩
    refine ⟨_, rfl, v, d, rfl, hd, _, rfl, ?_⟩
    cases h1 : posD d with
    | true =>
      obtain ⟨i, rfl⟩ : ∃ i, d = .int i := by cases d <;> first | exact ⟨_, rfl⟩ | (exact absurd h1 (by simp [posD]))
      cases hd
      have e : numD (.int i) m = decide (i ≤ m) := by
        show (decide (0 ≤ i) && decide (i ≤ m)) = _
        rw [(show decide (0 ≤ i) = true from h1), Bool.true_and]
      rw [e] at k
      exact iteT ⟨_, rfl, _, rfl, _, _, rfl, rfl, k⟩
    | false =>
      have e : numD d m = false := by
        cases d <;> first | rfl | skip
        rename_i i
        show (decide (0 ≤ i) && decide (i ≤ m)) = false
        rw [(show decide (0 ≤ i) = false from h1), Bool.false_and]
      rw [e] at k
      exact iteF k
theorem scNs : FnScope ["values", "value"] ["values"] (defScope sNames) := ⟨rfl, rfl, rfl, by decide +kernel, rfl, by decide +kernel, by decide +kernel⟩
theorem ok_names {f : Addr} {fd : FuncData} (F : Fun K "are_names" "are_names" sNames f fd) (T : TxN K mg P w base) : FnOk P w K mg base CX0 2 f fd ["values"] (spNames K) := by
  obtain ⟨g, gd, mG, kG, bG, GG⟩ := T.name
  refine F.ok scNs (fun vs H Q E h => ?_) (fun cdv A outer s H vs Q E hr h => ?_)
  · obtain ⟨a, xs, ds, rfl, _⟩ := h; rfl
  · obtain ⟨a, xs, ds, rfl, ha, hd, hz, hn, k⟩ := h
    refine ⟨_, pss_one (ps_ret (pe_callB (cr_all rfl) (by rfl) T.all PyProof.Rows.boot_all (pa_cons (pe_lc (own := [("value", 1)]) (g := gName 1) (tt := tYes) rfl scNs.nd (pi_tup (pv 0))
        (blkOk_by (N := ["values", "value"]) (sc := defScope sNames) (by decide +kernel)) (fun _ _ _ _ _ => pg_name (i := 1) scNs.nd rfl (Or.inl rfl)) (fun _ _ _ _ _ => pts_nil)
        (fun _ _ _ _ _ => pe_call GG hr (by rfl) mG kG bG .nil pass0 (pa_cons (pv 1) pa_nil))) pa_nil))), ?_⟩
    have hl := dpAll_len hd
    refine ⟨_, rfl, a, rfl, ⟨_, ha⟩, fun D hD => ?_⟩
    have off : Off D (fun i acc (_ : Hp) => acc = (ds.take i).map fun d => V.bl (nameD d)) := fun _ _ _ _ _ _ _ z => z
    refine lc_fil walk_tup hD (fun i acc _ => acc = (ds.take i).map fun d => V.bl (nameD d)) (by simp) (fun H' s' => sqT_up ha s') ?_ ?_
    · rintro i v acc H2 H3 hi s2 e2 rfl ⟨rfl, hv⟩
      obtain ⟨d, hdi, hdv⟩ := dpAll_get hd hv
      refine ⟨rfl, tt_yes ?_⟩
      refine ⟨_, rfl, v, d, rfl, dp_up s2 hdv, fun s e => hz s (e ▸ List.mem_of_getElem? hdi), fun H4 s4 => ?_⟩
      refine put_of hD off s2 e2 s4 ?_ (by rw [List.take_add_one, hdi, List.map_append]; rfl)
      rw [List.length_map, List.length_take]
      rw [sizeLine_eq]
      omega
    · rintro acc H2 s2 e2 rfl
      refine ⟨D, ds.map nameD, rfl, SqL.of (by rw [e2, hl, List.take_length, List.map_map]; rfl), ?_⟩
      have e : (ds.map nameD).all id = ds.all nameD := by rw [List.all_map]; rfl
      rw [e]
      exact k _ s2
end
end Rd

namespace Rd
open PySem PySem.Spec PyProof.Rows L2 Tq Dn Dc
/-- all texts of a tuple's data are short, and it has few items -/
def Mod_ (d : PyData) : Prop := ∀ ds, d = .tuple ds → Small ds ∧ ds.length ≤ 100
def spLine (K : PySem.W.Frag) : Sp := fun vs H Q _ => ∃ v m, vs = [v, .int m] ∧
  ((∃ d, Dp K H v d ∧ SeqAt.shaped d = true ∧ Mod_ d ∧ ∀ H', Same H H' → Q (.bl (lineD d m)) H') ∨ (TyX K H v (.type "dict") ∧ Q (.bl false) H))
structure TxL (K : PySem.W.Frag) (mg : Str → Option Value) (P : Program) (w : World) (base : Heap) : Prop extends TxN K mg P w base where
  names : Has P w K mg base "are_names" 2 ["values"] (spNames K)
theorem cut13 (xs : List V) : cutV xs (some 1) (some 3) = (xs.drop (min 1 xs.length)).take (min 3 xs.length - min 1 xs.length) := by
  unfold cutV
  rw [show HT.sIx xs.length 0 (some (1 : Int)) = min 1 xs.length from HT.sIx_nat _ _ 1, show HT.sIx xs.length xs.length (some (3 : Int)) = min 3 xs.length from HT.sIx_nat _ _ 3]
theorem cut1 (xs : List V) : cutV xs (some 1) none = (xs.drop (min 1 xs.length)).take (xs.length - min 1 xs.length) := by
  unfold cutV
  rw [show HT.sIx xs.length 0 (some (1 : Int)) = min 1 xs.length from HT.sIx_nat _ _ 1, HT.sIx_none]
theorem shaped_str {x : Str} (h : PyData.strOk x = true) : SeqAt.shaped (.str x) = true := by
  show (PyData.canLay0 (.str x) && decide (PyData.depth (.str x) ≤ 64)) = true
  simp [PyData.canLay0, PyData.depth, h]
theorem shaped_go : SeqAt.shaped (.str "go") = true := shaped_str w_ok.1
theorem shaped_if : SeqAt.shaped (.str "if") = true := shaped_str w_ok.2.1
theorem lay_rl : PyData.canLayAll0 [.str "read", .str "look"] = true := by simp [PyData.canLayAll0, PyData.canLay0, w_ok.2.2.1, w_ok.2.2.2]
theorem eqVN {n m : Nat} : decide (V.int (n : Int) = V.int (m : Int)) = decide (n = m) := by
  by_cases h : n = m
  · rw [h]; simp
  · rw [decide_eq_false h, decide_eq_false fun e => h (by have := V.int.inj e; omega)]
section
variable {P : Program} {w : World} {K : PySem.W.Frag} {mg : Str → Option Value} {base : Heap}
theorem scLi : FnScope ["value", "many", "word"] ["value", "many"] (defScope sLine) := ⟨rfl, rfl, rfl, by decide +kernel, rfl, by decide +kernel, by decide +kernel⟩
theorem ok_line {f : Addr} {fd : FuncData} (F : Fun K "is_line" "is_line" sLine f fd) (T : TxL K mg P w base) : FnOk P w K mg base CX0 4 f fd ["value", "many"] (spLine K) := by
  obtain ⟨g, gd, mG, kG, bG, GG⟩ := T.within_
  obtain ⟨n, nd, mN, kN, bN, GN⟩ := T.names
  refine F.ok scLi (fun vs H Q E h => ?_) (fun cdv A outer s H vs Q E hr h => ?_)
  · obtain ⟨v, m, rfl, _⟩ := h; rfl
  · obtain ⟨v, m, rfl, h⟩ := h
    have hu := hr.units
    have hu65 : (A.deeper (envOfC (Str.ofString "is_line") (defScope sLine) s.heap.objs.size f cdv)).units + 65 < cLine := by have := hr.un; omega
    have hr2 := hr.mono (show 2 ≤ 3 by decide)
    refine ⟨_, pss_cons (ps_if (PW.pt (pw_or (pt_not (pt_val (pe_callB call_isi (by rfl) T.isi PyProof.Rows.boot_isinstance (pa_cons (pv 0) (pa_cons (pe_bltn (v := .ty "tuple") (by rfl) T.tuple PyProof.Rows.boot_tuple rfl) pa_nil)))))
        (pw_or1 (pt_cmpR op_lt (pe_callB call_len_seq (by rfl) T.len PySem.boot_len (pa_cons (pv 0) pa_nil)) pe_int (nomark _))))) (pss_one (ps_ret pe_bl)) pss_nil)
      (pss_cons (ps_set (i := 2) scLi.nd rfl (Or.inl rfl) (pe_ix ix_tup (pv 0) pe_int (fun _ _ => rfl)))
      (pss_cons (ps_if (pt_cmpR (op_eqD hu) (pv 2) pe_str (nomark _)) (pss_one (ps_ret (pe_and (pe_cmpR op_eq (pe_callB call_len_seq (by rfl) T.len PySem.boot_len (pa_cons (pv 0) pa_nil)) pe_int (nomark _))
        (pe_one (pe_call GG hr (by rfl) mG kG bG .nil pass0 (pa_cons (pe_ix ix_tup (pv 0) pe_int (fun _ _ => rfl)) (pa_cons (pv 1) pa_nil))))))) pss_nil)
      (pss_cons (ps_if (pt_cmpR (op_eqD hu) (pv 2) pe_str (nomark _)) (pss_one (ps_ret (pe_and (pe_cmpR op_eq (pe_callB call_len_seq (by rfl) T.len PySem.boot_len (pa_cons (pv 0) pa_nil)) pe_int (nomark _))
        (pe_and (pe_call GN hr2 (by rfl) mN kN bN .nil pass0 (pa_cons (pe_slice sl_tup (pv 0) (po_some pe_int) (po_some pe_int)) pa_nil))
        (pe_one (pe_call GG hr (by rfl) mG kG bG .nil pass0 (pa_cons (pe_ix ix_tup (pv 0) pe_int (fun _ _ => rfl)) (pa_cons (pv 1) pa_nil)))))))) pss_nil)
      (pss_one (ps_ret (pe_and (pe_cmpR (op_inDT hu65) (pv 2) (pe_tup (pa_cons pe_str (pa_cons pe_str pa_nil))) (by rfl))
        (pe_and (pe_cmpR op_eq (pe_callB call_len_seq (by rfl) T.len PySem.boot_len (pa_cons (pv 0) pa_nil)) pe_int (nomark _))
        (pe_one (pe_call GN hr2 (by rfl) mN kN bN .nil pass0 (pa_cons (pe_slice sl_tup (pv 0) (po_some pe_int) po_none) pa_nil)))))))))), ?_⟩
    rcases h.symm with ⟨ty, k⟩ | ⟨d, hd, hs, hm, k⟩
    · refine ⟨_, rfl, v, .ty "tuple", .type "dict", .type "tuple", false, rfl, .ty _, ty, kit_ty (by decide +kernel), _, rfl, ?_⟩
      exact iteT (iteT k)
    refine ⟨_, rfl, v, .ty "tuple", .type (tyD d), .type "tuple", isD "tuple" d, rfl, .ty _, dp_ty hd, kit_ty (kit_tup d), _, rfl, ?_⟩
    cases h1 : isD "tuple" d with
    | false =>
      refine iteT (iteT ?_)
      have e : lineD d m = false := by cases d <;> first | rfl | (exact absurd h1 (by simp [isD, tyD]))
      have := k H (Same.refl H)
      rw [e] at this
      exact this
    | true =>
      obtain ⟨ds, rfl⟩ := isD_tup h1
      obtain ⟨hz, hn⟩ := hm ds rfl
      cases hd with
      | @tup a xs _ ha hds =>
        have hl := dpAll_len hds
        refine iteF ?_
        refine ⟨_, rfl, a, _, rfl, .inr ha, _, _, rfl, rfl, _, rfl, ?_⟩
        have e0 : decide ((xs.length : Int) < 2) = decide (ds.length < 2) := by rw [hl]; simp; omega
        rw [e0]
        refine ite2 (fun h2 => ?_) (fun h2 => ?_)
        · have e : lineD (.tuple ds) m = false := by show (if ds.length < 2 then false else _) = false; rw [if_pos (of_decide_eq_true h2)]
          have := k H (Same.refl H)
          rw [e] at this
          exact this
        · have h2 : 2 ≤ ds.length := by have := of_decide_eq_false (by simpa using h2 : decide (ds.length < 2) = false); omega
          have e : lineD (.tuple ds) m = lineT ds m := by show (if ds.length < 2 then false else _) = _; rw [if_neg (by omega)]
          rw [e] at k
          obtain ⟨x0, hx0⟩ : ∃ x, xs[0]? = some x := ⟨xs[0], List.getElem?_eq_getElem (by omega)⟩
          obtain ⟨x1, hx1⟩ : ∃ x, xs[1]? = some x := ⟨xs[1], List.getElem?_eq_getElem (by omega)⟩
          obtain ⟨d0, hd0, p0⟩ := dpAll_get hds hx0
          obtain ⟨d1, hd1, p1⟩ := dpAll_get hds hx1
          have s0 := shaped_at hs hd0
          have g0 : ds.getD 0 .none = d0 := by rw [List.getD_eq_getElem?_getD, hd0]; rfl
          have g1 : ds.getD 1 .none = d1 := by rw [List.getD_eq_getElem?_getD, hd1]; rfl
          have ln : ∀ m : Nat, decide (V.int (xs.length : Int) = V.int (m : Int)) = decide (ds.length = m) := fun m => by rw [hl]; exact eqVN
          refine ⟨_, rfl, a, _, _, x0, rfl, rfl, ha, atI_nat (j := 0) hx0, ?_⟩
          refine ⟨_, rfl, d0, _, p0, .str _, s0, shaped_go, _, rfl, ite2 (fun c1 => ?_) (fun c1 => ?_)⟩
          · have L : lineT ds m = (decide (ds.length = 2) && numD d1 m) := by unfold lineT; rw [g0, if_pos c1, g1]
            rw [L] at k
            refine ⟨_, rfl, a, _, rfl, .inr ha, rfl, _, rfl, ?_⟩
            rw [show decide (V.int (xs.length : Int) = V.int 2) = decide (ds.length = 2) from ln 2]
            refine ite2 (fun c2 => ?_) (fun c2 => ?_)
            · refine ⟨_, rfl, a, _, _, x1, rfl, rfl, ha, atI_nat (j := 1) hx1, _, rfl, x1, d1, m, rfl, p1, ?_⟩
              have := k H (Same.refl H)
              rwa [c2, Bool.true_and] at this
            · have := k H (Same.refl H)
              rwa [Bool.not_eq_true _ |>.mp c2, Bool.false_and] at this
          refine ⟨_, rfl, d0, _, p0, .str _, s0, shaped_if, _, rfl, ite2 (fun c2 => ?_) (fun c2 => ?_)⟩
          · have L : lineT ds m = (decide (ds.length = 4) && ((((ds.drop 1).take 2).all nameD) && numD (ds.getD 3 .none) m)) := by unfold lineT; rw [g0, if_neg c1, if_pos c2]
            rw [L] at k
            refine ⟨_, rfl, a, _, rfl, .inr ha, rfl, _, rfl, ?_⟩
            rw [show decide (V.int (xs.length : Int) = V.int 4) = decide (ds.length = 4) from ln 4]
            refine ite2 (fun c3 => ?_) (fun c3 => ?_)
            · have h4 : ds.length = 4 := of_decide_eq_true c3
              obtain ⟨x3, hx3⟩ : ∃ x, xs[3]? = some x := ⟨xs[3], List.getElem?_eq_getElem (by omega)⟩
              obtain ⟨d3, hd3, p3⟩ := dpAll_get hds hx3
              have g3 : ds.getD 3 .none = d3 := by rw [List.getD_eq_getElem?_getD, hd3]; rfl
              have ct : cutV xs (some 1) (some 3) = (xs.drop 1).take 2 := by rw [cut13, hl, h4]; rfl
              refine ⟨_, rfl, _, rfl, _, rfl, a, _, rfl, ha, ?_, fun p np => ?_⟩
              · rw [show HT.sIx xs.length 0 (some (1 : Int)) = min 1 xs.length from HT.sIx_nat _ _ 1, hl, h4]
                exact fun z => absurd z.1 (by decide)
              · rw [ct]
                have sn := same_new (o := HO.tup ((xs.drop 1).take 2)) np
                refine ⟨p, _, (ds.drop 1).take 2, rfl, SqT.of upd_same, dpAll_up sn (dpAll_take 2 (dpAll_drop 1 hds)), fun s hs => hz s (List.mem_of_mem_drop (List.mem_of_mem_take hs)), by rw [List.length_take]; omega, fun H' s' => ?_⟩
                have s2 := sn.trans s'
                refine ⟨_, rfl, ite2 (fun c4 => ?_) (fun c4 => ?_)⟩
                · refine ⟨_, rfl, a, _, _, x3, rfl, rfl, sqT_up ha s2, atI_nat (j := 3) hx3, _, rfl, x3, d3, m, rfl, dp_up s2 p3, ?_⟩
                  have := k H' s2
                  rwa [c3, c4, g3, Bool.true_and, Bool.true_and] at this
                · have := k H' s2
                  rwa [c3, Bool.not_eq_true _ |>.mp c4, Bool.false_and, Bool.and_false] at this
            · have := k H (Same.refl H)
              rwa [Bool.not_eq_true _ |>.mp c3, Bool.false_and] at this
          · have L : lineT ds m = (([PyData.str "read", PyData.str "look"].any fun e => PyData.eqv e d0) && (decide (ds.length = 3) && (ds.drop 1).all nameD)) := by unfold lineT; rw [g0, if_neg c1, if_neg c2]; rfl
            rw [L] at k
            refine ⟨_, rfl, (by show 2 ≤ sizeLine; decide), fun t nt => ?_⟩
            have sn := same_new (o := HO.tup [V.str "read", V.str "look"]) nt
            refine ⟨d0, [.str "read", .str "look"], dp_up sn p0, .tup (SqT.of upd_same) (.cons (.str _) (.cons (.str _) .nil)), s0, lay_rl, _, rfl, ?_⟩
            rw [Bool.bne_false]
            refine ite2 (fun c3 => ?_) (fun c3 => ?_)
            · refine ⟨_, rfl, a, _, rfl, .inr (sqT_up ha sn), rfl, _, rfl, ?_⟩
              rw [show decide (V.int (xs.length : Int) = V.int 3) = decide (ds.length = 3) from ln 3]
              refine ite2 (fun c4 => ?_) (fun c4 => ?_)
              · have h3 : ds.length = 3 := of_decide_eq_true c4
                have ct : cutV xs (some 1) none = xs.drop 1 := by rw [cut1, hl, h3, List.take_of_length_le (by rw [List.length_drop, hl, h3]; decide)]; rfl
                refine ⟨_, rfl, _, rfl, a, _, rfl, sqT_up ha sn, ?_, fun p np => ?_⟩
                · rw [show HT.sIx xs.length 0 (some (1 : Int)) = min 1 xs.length from HT.sIx_nat _ _ 1, hl, h3]
                  exact fun z => absurd z.1 (by decide)
                · rw [ct]
                  have sp := same_new (o := HO.tup (xs.drop 1)) np
                  refine ⟨p, _, ds.drop 1, rfl, SqT.of upd_same, dpAll_up (sn.trans sp) (dpAll_drop 1 hds), fun s hs => hz s (List.mem_of_mem_drop hs), by rw [List.length_drop]; omega, fun H' s' => ?_⟩
                  have := k H' ((sn.trans sp).trans s')
                  rwa [c3, c4, Bool.true_and, Bool.true_and] at this
              · have := k _ sn
                rwa [c3, Bool.not_eq_true _ |>.mp c4, Bool.false_and, Bool.and_false] at this
            · have := k _ sn
              rwa [Bool.not_eq_true _ |>.mp c3, Bool.false_and] at this
end
end Rd

namespace Rd
open PySem PySem.Spec PyProof.Rows L2 Tq Dn Dc
abbrev RowsL := List (Addr × Ln)
/-- a tuple of such lines stands at L -/
def LinesAt (K : PySem.W.Frag) (H : Hp) (L : Addr) (rs : RowsL) : Prop := SqT K H L (rs.map fun r => .ref r.1) ∧ ∀ r ∈ rs, SqT K H r.1 r.2.vs
theorem LinesAt.up {K : PySem.W.Frag} {H H' : Hp} {L : Addr} {rs : RowsL} (h : LinesAt K H L rs) (s : Same H H') : LinesAt K H' L rs := ⟨sqT_up h.1 s, fun r hr => sqT_up (h.2 r hr) s⟩
theorem ln_dp {K : PySem.W.Frag} {H : Hp} {a : Addr} {l : Ln} (h : SqT K H a l.vs) : Dp K H (.ref a) l.d := by
  cases l with
  | go n => exact .tup h (.cons (.str _) (.cons (.int _) .nil))
  | ift t p n => exact .tup h (.cons (.str _) (.cons (.str _) (.cons (.str _) (.cons (.int _) .nil))))
  | look t p => exact .tup h (.cons (.str _) (.cons (.str _) (.cons (.str _) .nil)))
  | read t p => exact .tup h (.cons (.str _) (.cons (.str _) (.cons (.str _) .nil)))
theorem lns_dp {K : PySem.W.Frag} {H : Hp} : ∀ {rs : RowsL}, (∀ r ∈ rs, SqT K H r.1 r.2.vs) → DpAll K H (rs.map fun r => .ref r.1) ((rs.map Prod.snd).map Ln.d)
  | [], _ => .nil
  | r :: rs, h => .cons (ln_dp (h r List.mem_cons_self)) (lns_dp fun q hq => h q (.tail _ hq))
theorem LinesAt.dp {K : PySem.W.Frag} {H : Hp} {L : Addr} {rs : RowsL} (h : LinesAt K H L rs) : Dp K H (.ref L) (dls (rs.map Prod.snd)) := .tup h.1 (lns_dp h.2)
/-- a tuple of these pairs stands at p -/
def PairsAt (K : PySem.W.Frag) (H : Hp) (p : Addr) (ps : List (List Str)) : Prop := ∃ rs : List (Row Str), rs.map Prod.snd = ps ∧ SqT K H p (rs.map fun r => .ref r.1) ∧ TupsX K H rs
theorem tupsX_up {K : PySem.W.Frag} {H H' : Hp} {rs : List (Row Str)} (h : TupsX K H rs) (s : Same H H') : TupsX K H' rs := fun r hr => sqT_up (h r hr) s
theorem PairsAt.up {K : PySem.W.Frag} {H H' : Hp} {p : Addr} {ps : List (List Str)} (h : PairsAt K H p ps) (s : Same H H') : PairsAt K H' p ps :=
  let ⟨rs, e, a, b⟩ := h; ⟨rs, e, sqT_up a s, tupsX_up b s⟩
theorem strs_dp {K : PySem.W.Frag} {H : Hp} : ∀ k : List Str, DpAll K H (k.map V.str) (k.map PyData.str)
  | [] => .nil
  | x :: k => .cons (.str x) (strs_dp k)
theorem pairs_dp {K : PySem.W.Frag} {H : Hp} : ∀ {rs : List (Row Str)}, TupsX K H rs → DpAll K H (rs.map fun r => .ref r.1) ((rs.map Prod.snd).map pD)
  | [], _ => .nil
  | r :: rs, h => .cons (.tup (h r List.mem_cons_self) (strs_dp _)) (pairs_dp fun q hq => h q (.tail _ hq))
theorem PairsAt.dp {K : PySem.W.Frag} {H : Hp} {p : Addr} {ps : List (List Str)} (h : PairsAt K H p ps) : Dp K H (.ref p) (pDs ps) := by
  obtain ⟨rs, rfl, a, b⟩ := h
  exact .tup a (pairs_dp b)
def spAscX (K : PySem.W.Frag) : Sp := fun vs H Q _ => ∃ (l : Addr) (ks : List (Row Str)), vs = [.ref l] ∧ SqL K H l (ks.map fun r => V.ref r.1) ∧ TupsX K H ks ∧ ks.length < 64 ∧ (∀ r ∈ ks, r.2 ≠ []) ∧
  ∀ H' p ps, Same H H' → H p = none → Asc (ks.map Prod.snd) ps → PairsAt K H' p ps → Q (.ref p) H'
def spAscS (K : PySem.W.Frag) : Sp := fun vs H Q _ => ∃ (l : Addr) (ks : List Str), vs = [.ref l] ∧ SqL K H l (ks.map V.str) ∧ ks.length < 64 ∧
  ∀ H' p ts, Same H H' → H p = none → AscS ks ts → ts.length ≤ ks.length → H' p = some (.tup (ts.map V.str)) → Q (.ref p) H'
def spPairs (K : PySem.W.Frag) : Sp := fun vs H Q _ => ∃ (L W : Addr) (rs : RowsL) (ws : List Str), vs = [.ref L, .ref W] ∧ LinesAt K H L rs ∧ SqT K H W (ws.map V.str) ∧ ("go" : Str) ∉ ws ∧ rs.length < 64 ∧
  ∀ H' p ps, Same H H' → H p = none → Asc (keysOf ws (rs.map Prod.snd)) ps → PairsAt K H' p ps → Q (.ref p) H'
section
variable {P : Program} {w : World} {K : PySem.W.Frag} {mg : Str → Option Value} {base : Heap}
theorem scAs : FnScope ["values"] ["values"] (defScope sAsc) := ⟨rfl, rfl, rfl, by decide +kernel, rfl, by decide +kernel, by decide +kernel⟩
theorem ok_ascX {f : Addr} {fd : FuncData} (F : Fun K "ascending" "ascending" sAsc f fd) (T : TxM K mg) : FnOk P w K mg base CX0 1 f fd ["values"] (spAscX K) := by
  refine F.ok scAs (fun vs H Q E h => ?_) (fun cdv A outer s H vs Q E hr h => ?_)
  · obtain ⟨l, ks, rfl, _⟩ := h; rfl
  · obtain ⟨l, ks, rfl, hl, hk, few, ne, k⟩ := h
    refine ⟨_, pss_one (ps_ret (pe_callTy call_tuple_of (by rfl) T.tuple PyProof.Rows.boot_tuple (pa_cons (pe_callB (cr_sortX rfl) (by rfl) T.sorted PyProof.Rows.boot_sorted (pa_cons (pe_callTy (cr_setX rfl hr.units) (by rfl) T.set PyProof.Rows.boot_set (pa_cons (pv 0) pa_nil)) pa_nil)) pa_nil))), ?_⟩
    refine ⟨_, rfl, l, ks, rfl, hl, hk, few, fun a L na hof hto => ?_⟩
    have s1 := same_new (o := SetX P w a L) na
    refine ⟨a, L, rfl, upd_same, fun r hr => sqT_up (hk r (hof r hr)) s1, fun r hr => ne r (hof r hr), fun L' p pm few' up np => ?_⟩
    have s2 := s1.trans (same_new (o := HO.lst (L'.map fun r => V.ref r.1)) np)
    refine ⟨p, _, rfl, .inl ⟨SqL.of upd_same, fun q nq => ?_⟩⟩
    have s3 := s2.trans (same_new (o := HO.tup (L'.map fun r => V.ref r.1)) nq)
    refine k _ q (L'.map Prod.snd) s3 (s2.free nq) ⟨?_, fun x => ?_⟩ ⟨L', rfl, SqT.of upd_same, fun r hr => sqT_up (hk r (hof r (pm.mem_iff.mp hr))) s3⟩
    · rw [List.pairwise_map] at up ⊢; exact up
    · rw [(pm.map Prod.snd).mem_iff]
      constructor
      · intro z
        obtain ⟨r, hr, rfl⟩ := List.mem_map.mp z
        exact List.mem_map_of_mem (hof r hr)
      · intro z
        obtain ⟨r, hr, rfl⟩ := List.mem_map.mp z
        exact hto r hr
theorem ok_ascS {f : Addr} {fd : FuncData} (F : Fun K "ascending" "ascending" sAsc f fd) (T : TxM K mg) : FnOk P w K mg base CX0 1 f fd ["values"] (spAscS K) := by
  refine F.ok scAs (fun vs H Q E h => ?_) (fun cdv A outer s H vs Q E hr h => ?_)
  · obtain ⟨l, ks, rfl, _⟩ := h; rfl
  · obtain ⟨l, ks, rfl, hl, few, k⟩ := h
    refine ⟨_, pss_one (ps_ret (pe_callTy call_tuple_of (by rfl) T.tuple PyProof.Rows.boot_tuple (pa_cons (pe_callB (cr_sortT rfl) (by rfl) T.sorted PyProof.Rows.boot_sorted (pa_cons (pe_callTy (cr_setT rfl) (by rfl) T.set PyProof.Rows.boot_set (pa_cons (pv 0) pa_nil)) pa_nil)) pa_nil))), ?_⟩
    refine ⟨_, rfl, l, ks, rfl, hl, few, fun a L na hm hn => ?_⟩
    have s1 := same_new (o := SetT P w a L) na
    refine ⟨a, L, rfl, upd_same, by omega, fun L' p pm up np => ?_⟩
    have s2 := s1.trans (same_new (o := HO.lst (L'.map V.str)) np)
    refine ⟨p, _, rfl, .inl ⟨SqL.of upd_same, fun q nq => ?_⟩⟩
    exact k _ q L' (s2.trans (same_new nq)) (s2.free nq) ⟨up, fun x => by rw [pm.mem_iff, hm]⟩ (by rw [pm.length_eq]; exact hn) upd_same
theorem inV_strs (x : Str) : ∀ ws : List Str, inV (.str x) (ws.map V.str) = ws.contains x
  | [] => rfl
  | y :: ws => by
    have ih := inV_strs x ws
    show (eqV (.str y) (.str x) || inV (.str x) (ws.map V.str)) = _
    rw [ih, List.contains_cons]
    congr 1
    show (y == x) = (x == y)
    exact BEq.comm
theorem flat_strs : ∀ ws : List Str, (ws.map V.str).all flatV = true
  | [] => rfl
  | _ :: ws => flat_strs ws
theorem ln_word (l : Ln) : l.vs[0]? = some (.str l.word) := by cases l <;> rfl
theorem ln_cut {l : Ln} (h : l.word ≠ "go") : cutV l.vs (some 1) (some 3) = l.key.map V.str := by
  cases l with
  | go n => exact absurd rfl h
  | ift t p n => rw [cut13]; rfl
  | look t p => rw [cut13]; rfl
  | read t p => rw [cut13]; rfl
theorem ln_part {l : Ln} : ¬ (HT.sIx l.vs.length 0 (some 1) = 0 ∧ HT.sIx l.vs.length l.vs.length (some 3) = l.vs.length) := by
  rw [show HT.sIx l.vs.length 0 (some (1 : Int)) = min 1 l.vs.length from HT.sIx_nat _ _ 1]
  intro z
  have := z.1
  cases l <;> simp [Ln.vs] at this
theorem ln_key {l : Ln} (h : l.word ≠ "go") : l.key ≠ [] := by cases l <;> first | exact absurd rfl h | exact fun z => nomatch z
structure TxP (K : PySem.W.Frag) (mg : Str → Option Value) (P : Program) (w : World) (base : Heap) : Prop extends TxL K mg P w base where
  line : Has P w K mg base "is_line" 4 ["value", "many"] (spLine K)
  ascX : Has P w K mg base "ascending" 1 ["values"] (spAscX K)
  ascS : Has P w K mg base "ascending" 1 ["values"] (spAscS K)
theorem scPa : FnScope ["lines", "words", "line"] ["lines", "words"] (defScope sPairs) := ⟨rfl, rfl, rfl, by decide +kernel, rfl, by decide +kernel, by decide +kernel⟩
theorem ok_pairs {f : Addr} {fd : FuncData} (F : Fun K "pairs_of" "pairs_of" sPairs f fd) (T : TxP K mg P w base) : FnOk P w K mg base CX0 2 f fd ["lines", "words"] (spPairs K) := by
  obtain ⟨g, gd, mG, kG, bG, GG⟩ := T.ascX
  refine F.ok scPa (fun vs H Q E h => ?_) (fun cdv A outer s H vs Q E hr h => ?_)
  · obtain ⟨L, W, rs, ws, rfl, _⟩ := h; rfl
  · obtain ⟨L, W, rs, ws, rfl, hL, hW, hg, few, k⟩ := h
    refine ⟨_, pss_one (ps_ret (pe_call GG hr (by rfl) mG kG bG .nil pass0 (pa_cons (pe_lc (own := [("line", 2)]) (g := gName 2) (tt := tTest (tOp (rIn K false) (tOp (rIxT K) (tVar 2) (tC (.int 0))) (tVar 1))) (te := tSl (rSlT K) (tVar 2) (tPart (tC (.int 1))) (tPart (tC (.int 3)))) rfl scPa.nd (pi_tup (pv 0))
        (blkOk_by (N := ["lines", "words", "line"]) (sc := defScope sPairs) (by decide +kernel)) (fun _ _ _ _ _ => pg_name (i := 2) scPa.nd rfl (Or.inl rfl))
        (fun _ _ _ _ _ => pts_one (pt_cmpR op_in_seq (pe_ix ix_tup (pv 2) pe_int (fun _ _ => rfl)) (pv 1) (by rfl)))
        (fun _ _ _ _ _ => pe_slice sl_tup (pv 2) (po_some pe_int) (po_some pe_int))) pa_nil))), ?_⟩
    refine ⟨_, rfl, L, rfl, ⟨_, hL.1⟩, fun D hD => ?_⟩
    have off : Off D (fun i acc H' => ∃ ks : List (Row Str), acc = (ks.map fun r => V.ref r.1) ∧ TupsX K H' ks ∧ ks.map Prod.snd = keysOf ws ((rs.take i).map Prod.snd)) :=
      fun i acc l H2 H3 e kp ⟨ks, z1, z2, z3⟩ => ⟨ks, z1, fun r hr => off_seq e kp (z2 r hr), z3⟩
    refine lc_fil walk_tup hD (fun i acc H' => ∃ ks : List (Row Str), acc = (ks.map fun r => V.ref r.1) ∧ TupsX K H' ks ∧ ks.map Prod.snd = keysOf ws ((rs.take i).map Prod.snd)) ⟨[], rfl, fun r z => (by cases z), rfl⟩ (fun H' s' => sqT_up hL.1 s') ?_ ?_
    · rintro i v acc H2 H3 hi s2 e2 ⟨ks, rfl, hks, ek⟩ ⟨rfl, hv⟩
      rw [List.getElem?_map] at hv
      obtain ⟨r, hri, rfl⟩ := Option.map_eq_some_iff.mp hv
      have hr := sqT_up (hL.2 r (List.mem_of_getElem? hri)) s2
      have nx : (rs.take (i + 1)).map Prod.snd = (rs.take i).map Prod.snd ++ [r.2] := by rw [List.take_add_one, hri, List.map_append]; rfl
      have kx : keysOf ws ((rs.take (i + 1)).map Prod.snd) = keysOf ws ((rs.take i).map Prod.snd) ++ keysOf ws [r.2] := by rw [nx]; unfold keysOf; rw [List.filter_append, List.map_append]
      refine ⟨rfl, ?_⟩
      refine ⟨_, rfl, r.1, _, _, _, rfl, rfl, hr, atI_nat (j := 0) (ln_word r.2), _, rfl, W, _, rfl, .inr (sqT_up hW s2), rfl, flat_strs ws, _, rfl, ?_⟩
      show (if inV (.str r.2.word) (ws.map V.str) = true then _ else _)
      rw [inV_strs]
      refine ite2 (fun c => ?_) (fun c => ?_)
      · have hw : r.2.word ≠ "go" := fun e => hg (by rw [← e]; exact List.contains_iff_mem.mp c)
        refine ⟨_, rfl, _, rfl, _, rfl, r.1, _, rfl, hr, ln_part, fun p np => ?_⟩
        rw [ln_cut hw]
        have sn := same_new (o := HO.tup (r.2.key.map V.str)) np
        refine put_of hD off s2 e2 sn ?_ ⟨ks ++ [(p, r.2.key)], by rw [List.map_append]; rfl, fun q hq => ?_, ?_⟩
        · rw [List.length_map]
          have h1 : ks.length ≤ i := by
            have h2 := congrArg List.length ek
            rw [List.length_map] at h2
            rw [h2]
            unfold keysOf
            rw [List.length_map]
            refine Nat.le_trans (List.length_filter_le _ _) ?_
            rw [List.length_map, List.length_take]
            omega
          rw [List.length_map] at hi
          rw [sizeLine_eq]; omega
        · rcases List.mem_append.mp hq with z | z
          · exact sqT_up (hks q z) sn
          · rw [List.mem_singleton.mp z]; exact SqT.of upd_same
        · rw [List.map_append, ek, kx]
          congr 1
          show [r.2.key] = ([r.2].filter fun l => ws.contains l.word).map Ln.key
          rw [List.filter_cons_of_pos (by exact c)]; rfl
      · refine fil_of s2 e2 (Same.refl _) ⟨ks, rfl, hks, ?_⟩
        rw [ek, kx]
        show _ = _ ++ ([r.2].filter fun l => ws.contains l.word).map Ln.key
        rw [List.filter_cons_of_neg (by exact c)]
        simp
    · rintro acc H2 s2 e2 ⟨ks, rfl, hks, ek⟩
      rw [List.length_map, List.take_length] at ek
      refine ⟨D, ks, rfl, SqL.of e2, hks, ?_, fun r hr => ?_, fun H' p ps s' np hA hP => ?_⟩
      · have h2 := congrArg List.length ek
        rw [List.length_map] at h2
        rw [h2]
        unfold keysOf
        rw [List.length_map]
        refine Nat.lt_of_le_of_lt (List.length_filter_le _ _) ?_
        rw [List.length_map]; exact few
      · have : r.2 ∈ keysOf ws (rs.map Prod.snd) := by rw [← ek]; exact List.mem_map_of_mem hr
        obtain ⟨l, hl, e⟩ := List.mem_map.mp this
        obtain ⟨_, hl2⟩ := List.mem_filter.mp hl
        rw [← e]
        exact ln_key fun z => hg (by rw [← z]; exact List.contains_iff_mem.mp hl2)
      · rw [ek] at hA
        exact k H' p ps (s2.trans s') (s2.free np) hA hP
end
end Rd

namespace Rd
open PySem PySem.Spec PyProof.Rows L2 Tq Dn Dc
abbrev cReader : Stmt := top 45
abbrev sInit : Stmt := inClass cReader 0
abbrev sOf : Stmt := inClass cReader 1
abbrev sReading : Stmt := inClass cReader 2
/-- what a def with a star parameter behind n others promises -/
def spStar (n : Nat) (sp : Sp) : Sp := fun vs H Q E => ∃ ws rest, vs = ws ++ rest ∧ ws.length = n ∧ rest.length ≤ sizeLine ∧ ∀ p, H p = Option.none → sp (ws ++ [V.ref p]) (upd H p (.tup rest)) Q E
section
variable {P : Program} {w : World} {K : PySem.W.Frag} {mg : Str → Option Value} {base : Heap}
theorem okStar {x qual : Str} {st : Stmt} {f : Addr} {fd : FuncData} {N ps : List Str} {pv : Str} {k : Nat} {sp : Sp} (F : Fun K x qual st f fd) (S : FnScope N (ps ++ [pv]) (defScope st))
    (hb : ∀ (kV doc pm : Value) (an : Option Addr) (cdv ct : Value) (us rest : List Value), us.length = ps.length → bindArgs (PySem.W.fnOf x qual (defArgs st) (defBody st) (defScope st) .none kV doc pm an cdv ct) ⟨us ++ rest, []⟩ = (newTuple rest >>= fun t => pure (ps.zip us ++ [(pv, t)])))
    (hbody : ∀ (cdv : Value) (A : Around) (outer : List Env) (s : Shared) (H : Hp) (vs : List V) (Q : VK) (E : XK), Room k (A.deeper (envOfC qual (defScope st) s.heap.objs.size f cdv)) → sp vs H Q E →
      ∃ t, PSs (cxOf CX0 P w K mg base N qual (defScope st) f cdv A outer s H E).nox (defBody st) t ∧ t { nx := fun _ H' => Q .non H', rt := Q } (start N vs) H) : FnR P w K mg base CX0 (k + 1) f (spStar ps.length sp) := by
  obtain ⟨oc, od, kV, doc, pm, an, cdv, ct, osl, rfl, lk, hcd⟩ := F.ex
  refine StX.fn_star lk hcd S StX.cxUp_none (hb kV doc pm an cdv ct) fun A outer s H vs Q E hr hsp => ?_
  obtain ⟨t, h, q⟩ := hbody cdv A outer s H vs Q E hr hsp
  exact ⟨t, h.nox, q⟩
/-- the lines make a reader -/
structure RdOk (rs : RowsL) : Prop where
  few : rs.length ≤ 16
  fine : ∀ r ∈ rs, r.2.fine rs.length = true
  six : ∀ ps, Asc (keysOf ["if"] (rs.map Prod.snd)) ps → ps.length ≤ 6
abbrev rdF (L T : Addr) : List (Str × V) := [("_lines", .ref L), ("_tested", .ref T)]
/-- a reader of these lines stands at r -/
def RdAt (K : PySem.W.Frag) (C : Addr) (H : Hp) (r : Addr) (rs : RowsL) : Prop := ∃ dx L T ps, H r = some (.ins C dx (rdF L T)) ∧ LinesAt K H L rs ∧ Asc (keysOf ["if"] (rs.map Prod.snd)) ps ∧ PairsAt K H T ps
theorem RdAt.up {C : Addr} {H H' : Hp} {r : Addr} {rs : RowsL} (h : RdAt K C H r rs) (s : Same H H') : RdAt K C H' r rs :=
  let ⟨dx, L, T, ps, e, a, b, c⟩ := h; ⟨dx, L, T, ps, s _ _ e, a.up s, b, c.up s⟩
def spInit (K : PySem.W.Frag) (C : Addr) : Sp := fun vs H Q _ => ∃ (x dx L : Addr) (rs : RowsL), vs = [.ref x, .ref L] ∧ H x = some (.ins C dx []) ∧ LinesAt K H L rs ∧ RdOk rs ∧
  ∀ H' T ps, Keep x H H' → H' x = some (.ins C dx (rdF L T)) → Asc (keysOf ["if"] (rs.map Prod.snd)) ps → PairsAt K H' T ps → Q .non H'
def spOf (K : PySem.W.Frag) (C : Addr) : Sp := fun vs H Q _ => ∃ (L : Addr) (rs : RowsL), vs = [.ref C, .ref L] ∧ LinesAt K H L rs ∧ RdOk rs ∧ ∀ H' r, Same H H' → H r = none → RdAt K C H' r rs → Q (.ref r) H'
/-- what the class and the module give -/
structure TxR0 (K : PySem.W.Frag) (mg : Str → Option Value) (P : Program) (w : World) (base : Heap) (C : Addr) : Prop extends TxP K mg P w base where
  cl : Cls K C
  nL : NoAttr K C "_lines"
  nT : NoAttr K C "_tested"
  mgC : mg "Reader" = some (.ref C)
  mxL : ∃ t, mg "MAX_LINES" = some (.int 16 t)
  mxT : ∃ t, mg "MAX_TESTED" = some (.int 6 t)
  pairs : Has P w K mg base "pairs_of" 2 ["lines", "words"] (spPairs K)
theorem fine_mod {l : Ln} {m : Nat} (h : l.fine m = true) : Mod_ l.d := by
  have sz : ∀ x : Str, nameS x = true → x.cps.size < sizeLine := fun x hx => by
    unfold nameS at hx
    simp only [Bool.and_eq_true, decide_eq_true_eq] at hx
    have : x.cps.size ≤ 8 := hx.1.2
    rw [sizeLine_eq]; omega
  have wd : ∀ x : Str, x.cps.size ≤ 8 → x.cps.size < sizeLine := fun x hx => by rw [sizeLine_eq]; omega
  rintro ds ⟨⟩
  refine ⟨fun s hs => ?_, by cases l <;> simp [Ln.ds]⟩
  cases l with
  | go n => simp [Ln.ds] at hs; subst hs; exact wd _ (by decide)
  | ift t p n =>
    simp only [Ln.fine, Bool.and_eq_true] at h
    simp [Ln.ds] at hs
    rcases hs with rfl | rfl | rfl
    · exact wd _ (by decide)
    · exact sz _ h.1
    · exact sz _ h.2.1
  | look t p =>
    simp only [Ln.fine, Bool.and_eq_true] at h
    simp [Ln.ds] at hs
    rcases hs with rfl | rfl | rfl
    · exact wd _ (by decide)
    · exact sz _ h.1
    · exact sz _ h.2
  | read t p =>
    simp only [Ln.fine, Bool.and_eq_true] at h
    simp [Ln.ds] at hs
    rcases hs with rfl | rfl | rfl
    · exact wd _ (by decide)
    · exact sz _ h.1
    · exact sz _ h.2
theorem k_lt : ¬ (("_lines" : Str) = "_tested") := by decide +kernel
theorem rd_flds (L T : Addr) : putF "_tested" (.ref T) (putF "_lines" (.ref L) []) = rdF L T := by
  show (if ("_lines" : Str) = "_tested" then _ else _) = _
  rw [if_neg k_lt]; rfl
theorem rd_lines (L T : Addr) : (rdF L T).lookup ("_lines" : Str) = some (V.ref L) := by rw [← rd_flds, lookup_putF, if_neg (fun e => k_lt e), lookup_putF, if_pos rfl]
theorem rd_tested (L T : Addr) : (rdF L T).lookup ("_tested" : Str) = some (V.ref T) := by rw [← rd_flds, lookup_putF, if_pos rfl]
/-- an instance changes: sequences are kept -/
theorem off_ins {D a C dx : Addr} {fs : List (Str × V)} {H H' : Hp} {xs : List V} (hD : H D = some (.ins C dx fs)) (k : Keep D H H') (h : SqT K H a xs) : SqT K H' a xs := by
  rcases h with (h | ⟨o, h⟩) | h
  · exact .inl (.inl (k a _ (fun e => by subst e; rw [hD] at h; cases h) h))
  · exact .inl (.inr ⟨o, k a _ (fun e => by subst e; rw [hD] at h; cases h) h⟩)
  · exact .inr h
theorem LinesAt.off {D C dx L : Addr} {fs : List (Str × V)} {H H' : Hp} {rs : RowsL} (hD : H D = some (.ins C dx fs)) (k : Keep D H H') (h : LinesAt K H L rs) : LinesAt K H' L rs := ⟨off_ins hD k h.1, fun r hr => off_ins hD k (h.2 r hr)⟩
theorem PairsAt.off {D C dx p : Addr} {fs : List (Str × V)} {H H' : Hp} {ps : List (List Str)} (hD : H D = some (.ins C dx fs)) (k : Keep D H H') (h : PairsAt K H p ps) : PairsAt K H' p ps :=
  let ⟨rs, e, a, b⟩ := h; ⟨rs, e, off_ins hD k a, fun r hr => off_ins hD k (b r hr)⟩
theorem fine_shaped {l : Ln} {m : Nat} (h : l.fine m = true) : SeqAt.shaped l.d = true := ln_shaped (fine_safe h)
theorem scIn : FnScope ["self", "lines", "line"] ([("self" : Str)] ++ [("lines" : Str)]) (defScope sInit) := ⟨rfl, rfl, rfl, by decide +kernel, rfl, by decide +kernel, by decide +kernel⟩
/-- len of a tuple -/
def rLenT (K : PySem.W.Frag) : List V → Hp → VK → Prop := fun xs H Q => ∃ p ys, xs = [.ref p] ∧ SqT K H p ys ∧ Q (.int (ys.length : Int)) H
theorem call_lenT {X : Cx} : CallR X (.builtin "len") (rLenT X.K) := by
  intro pins s σ H xs us Q I r h
  obtain ⟨p, ys, e, h1, h2⟩ := h
  exact call_len_seq pins s σ H xs us Q I r ⟨p, ys, e, .inr h1, h2⟩
theorem ok_init {C f : Addr} {fd : FuncData} (F : Fun K "__init__" "Reader.__init__" sInit f fd) (T : TxR0 K mg P w base C) : FnR P w K mg base CX0 5 f (spStar 1 (spInit K C)) := by
  obtain ⟨g, gd, mG, kG, bG, GG⟩ := T.line
  obtain ⟨q, qd, mQ, kQ, bQ, GQ⟩ := T.pairs
  obtain ⟨tl, mL⟩ := T.mxL
  obtain ⟨tt, mT⟩ := T.mxT
  refine okStar (ps := ["self"]) (pv := "lines") F scIn (fun kV doc pm an cdv ct => StX.bind_star1 (B := fun us => bindArgs _ ⟨us, []⟩) (p1 := "self") (pv := "lines") (fun a => rfl) (fun a r rs => rfl)) (fun cdv A outer s H vs Q E hr h => ?_)
  obtain ⟨x, dx, L, rs, rfl, hx, hL, ok, k⟩ := h
  have hr2 := hr.mono (show 2 ≤ 4 by decide)
  refine ⟨_, pss_cons (ps_if (pt_cmpR op_gt (pe_callB call_lenT (by rfl) T.len PySem.boot_len (pa_cons (pv 1) pa_nil)) (pe_glob (v := .int 16) (by rfl) mL ⟨_, rfl⟩) (nomark _)) (pss_one ps_never) pss_nil)
    (pss_cons (ps_if (pt_not (pt_val (pe_callB (cr_all rfl) (by rfl) T.all PyProof.Rows.boot_all (pa_cons (pe_lc (own := [("line", 2)]) (g := gName 2) (tt := tYes) (te := tCall (spLine K) [] E0 (tCons (tVar 2) (tCons (tCB (rLenT K) (tCons (tVar 1) tNil)) tNil))) rfl scIn.nd (pi_tup (pv 1))
        (blkOk_by (N := ["self", "lines", "line"]) (sc := defScope sInit) (by decide +kernel)) (fun _ _ _ _ _ => pg_name (i := 2) scIn.nd rfl (Or.inl rfl)) (fun _ _ _ _ _ => pts_nil)
        (fun _ _ _ _ _ => pe_call GG hr (by rfl) mG kG bG .nil pass0 (pa_cons (pv 2) (pa_cons (pe_callB call_lenT (by rfl) T.len PySem.boot_len (pa_cons (pv 1) pa_nil)) pa_nil)))) pa_nil)))) (pss_one ps_never) pss_nil)
    (pss_cons (ps_fld (pv 0) (pv 1) rfl)
    (pss_cons (ps_fld (pv 0) (pe_call GQ hr2 (by rfl) mQ kQ bQ .nil pass0 (pa_cons (pv 1) (pa_cons (pe_tup (pa_cons pe_str pa_nil)) pa_nil))) rfl)
    (pss_one (ps_if (pt_cmpR op_gt (pe_callB call_lenT (by rfl) T.len PySem.boot_len (pa_cons (pe_fld (pv 0) rfl) pa_nil)) (pe_glob (v := .int 6) (by rfl) mT ⟨_, rfl⟩) (nomark _)) (pss_one ps_never) pss_nil))))), ?_⟩
  refine ⟨_, rfl, L, _, rfl, hL.1, _, _, rfl, rfl, _, rfl, ?_⟩
  refine ite2 (fun z => absurd (of_decide_eq_true z) (by rw [List.length_map]; have := ok.few; omega)) (fun _ => ?_)
  refine ⟨_, rfl, L, rfl, ⟨_, hL.1⟩, fun D hD => ?_⟩
  have off : Off D (fun i acc (_ : Hp) => acc = (rs.take i).map fun _ => V.bl true) := fun _ _ _ _ _ _ _ z => z
  refine lc_fil walk_tup hD (fun i acc _ => acc = (rs.take i).map fun _ => V.bl true) (by simp) (fun H' s' => sqT_up hL.1 s') ?_ ?_
  · rintro i v acc H2 H3 hi s2 e2 rfl ⟨rfl, hv⟩
    rw [List.getElem?_map] at hv
    obtain ⟨r, hri, rfl⟩ := Option.map_eq_some_iff.mp hv
    have hr := sqT_up (hL.2 r (List.mem_of_getElem? hri)) s2
    have fr := ok.fine r (List.mem_of_getElem? hri)
    refine ⟨rfl, tt_yes ?_⟩
    refine ⟨_, rfl, _, rfl, L, _, rfl, sqT_up hL.1 s2, _, _, rfl, .inl ⟨r.2.d, ln_dp hr, fine_shaped fr, fine_mod fr, fun H4 s4 => ?_⟩⟩
    refine put_of hD off s2 e2 s4 ?_ ?_
    · rw [List.length_map, List.length_take, sizeLine_eq]; have := ok.few; omega
    · rw [List.length_map, fine_line fr, List.take_add_one, hri, List.map_append]; rfl
  · rintro acc H2 s2 e2 rfl
    refine ⟨D, rs.map fun _ => true, rfl, SqL.of (by rw [e2, List.length_map, List.take_length, List.map_map]; rfl), ?_⟩
    refine ⟨_, rfl, ?_⟩
    show (if (!((rs.map fun _ => true).all id)) = true then _ else _)
    rw [show ((rs.map fun _ => true).all id) = true by rw [List.all_map]; exact List.all_eq_true.mpr fun _ _ => rfl]
    refine iteF ?_
    have hx2 := s2 _ _ hx
    have kx : Keep x H2 (upd H2 x (.ins C dx (putF "_lines" (.ref L) []))) := keep_upd
    refine ⟨_, rfl, _, rfl, x, C, dx, [], rfl, hx2, T.cl, T.nL, (by show 0 < 1000; decide), ?_⟩
    have hL3 := (hL.up s2).off hx2 kx
    refine ⟨_, rfl, (by show 1 ≤ sizeLine; decide), fun t nt => ?_⟩
    have st := same_new (o := HO.tup [V.str "if"]) nt
    refine ⟨L, t, rs, ["if"], rfl, hL3.up st, SqT.of upd_same, (by decide +kernel), by have := ok.few; omega, fun H' p ps s' np hA hP => ?_⟩
    have hx4 := s' _ _ (st _ _ (show upd H2 x (.ins C dx (putF "_lines" (.ref L) [])) x = _ from upd_same))
    have k5 : Keep x H' (upd H' x (.ins C dx (putF "_tested" (.ref p) (putF "_lines" (.ref L) [])))) := keep_upd
    refine ⟨_, rfl, x, C, dx, _, rfl, hx4, T.cl, T.nT, (by show 1 < 1000; decide), ?_⟩
    rw [rd_flds] at k5 ⊢
    have hP5 := hP.off hx4 k5
    obtain ⟨prs, ep, hp1, hp2⟩ := id hP5
    refine ⟨_, rfl, x, C, dx, _, _, rfl, upd_same, T.cl, T.nT, rd_tested L p, p, _, rfl, hp1, _, _, rfl, rfl, _, rfl, ?_⟩
    refine ite2 (fun z => absurd (of_decide_eq_true z) (by have h6 := ok.six ps hA; rw [← ep, List.length_map] at h6; rw [List.length_map]; omega)) (fun _ => ?_)
    exact k _ p ps ((((same_keep s2).trans kx).trans (same_keep (st.trans s'))).trans k5) upd_same hA hP5
end
end Rd

namespace Rd
open PySem PySem.Spec PyProof.Rows L2 Tq Dn Dc
/-- a classmethod of the class at C, with its promise -/
abbrev HasC (P : Program) (w : World) (K : PySem.W.Frag) (mg : Str → Option Value) (base : Heap) (C : Addr) (m : Str) (k : Nat) (sp : Sp) : Prop :=
  ∃ mc p g, ClX.CRead K C mc ∧ ClX.CMet K C mc m p g ∧ FnR P w K mg base CX0 k g sp
def spReading (K : PySem.W.Frag) (C : Addr) : Sp := fun vs H Q _ => ∃ (t : Str) (a : Addr) (ps : List Str), vs = [.ref C, .str t, .ref a] ∧ SqT K H a (ps.map V.str) ∧ nameS t = true ∧ (∀ p ∈ ps, nameS p = true) ∧ ps.length ≤ 16 ∧
  ∀ H' r rs, Same H H' → H r = none → rs.map Prod.snd = ps.map (Ln.read t) → RdAt K C H' r rs → Q (.ref r) H'
structure TxR1 (K : PySem.W.Frag) (mg : Str → Option Value) (P : Program) (w : World) (base : Heap) (C : Addr) : Prop extends TxR0 K mg P w base C where
  made_ : ∃ f, Mk K C f ∧ FnR P w K mg base CX0 5 f (spStar 1 (spInit K C))
section
variable {P : Program} {w : World} {K : PySem.W.Frag} {mg : Str → Option Value} {base : Heap}
theorem plainR {k : Nat} {f : Addr} {fd : FuncData} {ps : List Str} {sp : Sp} (F : FnOk P w K mg base CX0 k f fd ps sp) (hb : Binds K fd ps []) : FnR P w K mg base CX0 k f sp :=
  (F.raw hb .nil).imp fun vs H Q E h => by rw [List.append_nil]; exact h
/-- a reader just made -/
theorem rd_new {C : Addr} {H' : Hp} {x dx L T : Addr} {rs : RowsL} {ps : List (List Str)} (e : H' x = some (.ins C dx (rdF L T))) (hL : LinesAt K H' L rs) (hA : Asc (keysOf ["if"] (rs.map Prod.snd)) ps) (hP : PairsAt K H' T ps) : RdAt K C H' x rs :=
  ⟨dx, L, T, ps, e, hL, hA, hP⟩
theorem scOf : FnScope ["cls", "lines"] ["cls", "lines"] (defScope sOf) := ⟨rfl, rfl, rfl, by decide +kernel, rfl, by decide +kernel, by decide +kernel⟩
theorem made_reader {C : Addr} {H : Hp} {Q : VK} {L : Addr} {rs : RowsL} (hL : ∀ r ∈ rs, SqT K H r.1 r.2.vs) (ok : RdOk rs) (k : ∀ H' r, Same H H' → H r = none → RdAt K C H' r rs → Q (.ref r) H') :
    ∀ x dx, H x = Option.none → H dx = Option.none → dx ≠ x → spStar 1 (spInit K C) (V.ref x :: (rs.map fun r => V.ref r.1)) (upd (upd H dx (.own x)) x (.ins C dx [])) (fun v H2 => v = .non ∧ Q (.ref x) H2) E0 := by
  intro x dx nx nd ne
  have s1 : Same H (upd (upd H dx (.own x)) x (.ins C dx [])) := same_to nx (same_new nd)
  refine ⟨[.ref x], _, rfl, rfl, by rw [List.length_map, sizeLine_eq]; have := ok.few; omega, fun p np => ?_⟩
  have s2 := same_new (o := HO.tup (rs.map fun r => V.ref r.1)) np
  refine ⟨x, dx, p, rs, rfl, s2 _ _ upd_same, ⟨SqT.of upd_same, fun r hr => sqT_up (hL r hr) (s1.trans s2)⟩, ok, fun H' T ps kp e hA hP => ⟨rfl, ?_⟩⟩
  have hx0 : upd (upd (upd H dx (.own x)) x (.ins C dx [])) p (HO.tup (rs.map fun r => V.ref r.1)) x = some (.ins C dx []) := s2 _ _ upd_same
  refine k H' x (fun b o hb => ?_) nx (rd_new e (LinesAt.off hx0 kp ⟨SqT.of upd_same, fun r hr => sqT_up (hL r hr) (s1.trans s2)⟩) hA hP)
  exact kp b o (ne_of_none hb nx) ((s1.trans s2) b o hb)
theorem ok_of {C f : Addr} {fd : FuncData} (F : Fun K "of" "Reader.of" sOf f fd) (T : TxR1 K mg P w base C) : FnOk P w K mg base CX0 7 f fd ["cls", "lines"] (spOf K C) := by
  obtain ⟨g, M, G⟩ := T.made_
  refine F.ok scOf (fun vs H Q E h => ?_) (fun cdv A outer s H vs Q E hr h => ?_)
  · obtain ⟨L, rs, rfl, _⟩ := h; rfl
  · obtain ⟨L, rs, rfl, hL, ok, k⟩ := h
    refine ⟨_, pss_cons (ps_if (pt_not (pt_val (pe_callB call_isi (by rfl) T.isi PyProof.Rows.boot_isinstance (pa_cons (pv 1) (pa_cons (pe_bltn (v := .ty "tuple") (by rfl) T.tuple PyProof.Rows.boot_tuple rfl) pa_nil))))) (pss_one ps_never) pss_nil)
      (pss_one (ps_ret (pe_makeS (i := 0) M G hr pass0 rfl (Or.inl rfl) (pv 1)))), ?_⟩
    refine ⟨_, rfl, .ref L, .ty "tuple", .type "tuple", .type "tuple", true, rfl, .ty _, dp_ty hL.dp, kit_ty (by decide +kernel), _, rfl, iteF ?_⟩
    exact ⟨rfl, _, rfl, L, _, rfl, .inl hL.1, made_reader (L := L) hL.2 ok k⟩
structure TxR2 (K : PySem.W.Frag) (mg : Str → Option Value) (P : Program) (w : World) (base : Heap) (C : Addr) : Prop extends TxR1 K mg P w base C where
  of_ : HasC P w K mg base C "of" 7 (spOf K C)
theorem scRe : FnScope ["cls", "table", "parts", "part"] ([("cls" : Str), ("table" : Str)] ++ [("parts" : Str)]) (defScope sReading) := ⟨rfl, rfl, rfl, by decide +kernel, rfl, by decide +kernel, by decide +kernel⟩
theorem keys_reads (t : Str) : ∀ ps : List Str, keysOf ["if"] (ps.map (Ln.read t)) = []
  | [] => rfl
  | p :: ps => by
    have ih := keys_reads t ps
    unfold keysOf at ih ⊢
    rw [List.map_cons, List.filter_cons_of_neg (a := Ln.read t p) (p := fun l => [("if" : Str)].contains l.word) (show ¬ ([("if" : Str)].contains ("read" : Str)) = true by decide +kernel)]
    exact ih
theorem asc_nil {ps : List (List Str)} (h : Asc [] ps) : ps = [] := by
  cases ps with
  | nil => rfl
  | cons p ps => exact absurd ((h.mem p).mp List.mem_cons_self) List.not_mem_nil
theorem reads_ok {t : Str} {ps : List Str} {rs : RowsL} (e : rs.map Prod.snd = ps.map (Ln.read t)) (ht : nameS t = true) (hp : ∀ p ∈ ps, nameS p = true) (few : ps.length ≤ 16) : RdOk rs := by
  have hl : rs.length = ps.length := by have := congrArg List.length e; simpa using this
  refine ⟨by omega, fun r hr => ?_, fun qs hq => ?_⟩
  · have : r.2 ∈ ps.map (Ln.read t) := by rw [← e]; exact List.mem_map_of_mem hr
    obtain ⟨p, h1, h2⟩ := List.mem_map.mp this
    rw [← h2]
    show (nameS t && nameS p) = true
    rw [ht, hp p h1]; rfl
  · rw [e, keys_reads] at hq
    rw [asc_nil hq]; decide
theorem ok_reading {C f : Addr} {fd : FuncData} (F : Fun K "reading" "Reader.reading" sReading f fd) (T : TxR2 K mg P w base C) : FnR P w K mg base CX0 8 f (spStar 2 (spReading K C)) := by
  obtain ⟨mc, p0, g, cr, cm, G⟩ := T.of_
  refine okStar (ps := ["cls", "table"]) (pv := "parts") F scRe (fun kV doc pm an cdv ct => StX.bind_star2 (B := fun us => bindArgs _ ⟨us, []⟩) (p1 := "cls") (p2 := "table") (pv := "parts") (fun a b => rfl) (fun a b r rs => rfl)) (fun cdv A outer s H vs Q E hr h => ?_)
  obtain ⟨t, a, ps, rfl, ha, ht, hp, few, k⟩ := h
  refine ⟨_, pss_one (ps_ret (ClX.pe_cmeth (pv 0) cr cm G hr pass0 (pa_cons (pe_callTy call_tuple_of (by rfl) T.tuple PyProof.Rows.boot_tuple (pa_cons (pe_lc (own := [("part", 3)]) (g := gName 3) (tt := tYes) rfl scRe.nd (pi_tup (pv 2))
        (blkOk_by (N := ["cls", "table", "parts", "part"]) (sc := defScope sReading) (by decide +kernel)) (fun _ _ _ _ _ => pg_name (i := 3) scRe.nd rfl (Or.inl rfl)) (fun _ _ _ _ _ => pts_nil)
        (fun _ _ _ _ _ => pe_tup (pa_cons pe_str (pa_cons (pv 1) (pa_cons (pv 3) pa_nil))))) pa_nil)) pa_nil))), ?_⟩
  refine ⟨_, rfl, rfl, _, rfl, a, rfl, ⟨_, ha⟩, fun D hD => ?_⟩
  have off : Off D (fun i acc H' => ∃ rs : RowsL, acc = (rs.map fun r => V.ref r.1) ∧ (∀ r ∈ rs, SqT K H' r.1 r.2.vs) ∧ rs.map Prod.snd = (ps.take i).map (Ln.read t)) :=
    fun i acc l H2 H3 e kp ⟨rs, z1, z2, z3⟩ => ⟨rs, z1, fun r hr => off_seq e kp (z2 r hr), z3⟩
  refine lc_fil walk_tup hD (fun i acc H' => ∃ rs : RowsL, acc = (rs.map fun r => V.ref r.1) ∧ (∀ r ∈ rs, SqT K H' r.1 r.2.vs) ∧ rs.map Prod.snd = (ps.take i).map (Ln.read t)) ⟨[], rfl, fun r z => (by cases z), rfl⟩ (fun H' s' => sqT_up ha s') ?_ ?_
  · rintro i v acc H2 H3 hi s2 e2 ⟨rs, rfl, hrs, er⟩ ⟨rfl, hv⟩
    rw [List.getElem?_map] at hv
    obtain ⟨q, hq, rfl⟩ := Option.map_eq_some_iff.mp hv
    refine ⟨rfl, tt_yes ?_⟩
    refine ⟨_, rfl, _, rfl, (by show 3 ≤ sizeLine; decide), fun p np => ?_⟩
    have sn := same_new (o := HO.tup [V.str "read", V.str t, V.str q]) np
    refine put_of hD off s2 e2 sn ?_ ⟨rs ++ [(p, Ln.read t q)], by rw [List.map_append]; rfl, fun r hr => ?_, ?_⟩
    · have h1 := congrArg List.length er
      rw [List.length_map, List.length_map, List.length_take] at h1
      rw [List.length_map, sizeLine_eq]; omega
    · rcases List.mem_append.mp hr with z | z
      · exact sqT_up (hrs r z) sn
      · rw [List.mem_singleton.mp z]; exact SqT.of upd_same
    · rw [List.map_append, er, List.take_add_one, hq, List.map_append]; rfl
  · rintro acc H2 s2 e2 ⟨rs, rfl, hrs, er⟩
    rw [List.length_map, List.take_length] at er
    refine ⟨D, _, rfl, .inl ⟨SqL.of e2, fun l nl => ?_⟩⟩
    have sn := same_new (o := HO.tup (rs.map fun r => V.ref r.1)) nl
    exact ⟨l, rs, rfl, ⟨SqT.of upd_same, fun r hr => sqT_up (hrs r hr) sn⟩, reads_ok er ht hp few, fun H' r s' nr hr => k H' r rs ((s2.trans sn).trans s') ((s2.trans sn).free nr) er hr⟩
end
end Rd

namespace Rd
open PySem PySem.Spec PyProof.Rows L2 Tq Dn Dc
abbrev sLines : Stmt := inClass cReader 3
abbrev sTested : Stmt := inClass cReader 4
abbrev sPrs : Stmt := inClass cReader 5
abbrev sPlain : Stmt := inClass cReader 6
abbrev sReadings : Stmt := inClass cReader 7
abbrev sGet : Stmt := inClass cReader 14
abbrev sHas : Stmt := inClass cReader 15
abbrev sLen : Stmt := inClass cReader 17
abbrev sEq : Stmt := inClass cReader 18
abbrev sStr : Stmt := inClass cReader 19
abbrev sNeed : Stmt := inClass cReader 20
abbrev lnsOf (rs : RowsL) : List Ln := rs.map Prod.snd
def spPrs (K : PySem.W.Frag) (C : Addr) : Sp := fun vs H Q _ => ∃ (r : Addr) (rs : RowsL), vs = [.ref r] ∧ RdAt K C H r rs ∧ RdOk rs ∧ ∀ H' p ps, Same H H' → H p = none → Asc (keysOf ["read", "look", "if"] (lnsOf rs)) ps → PairsAt K H' p ps → Q (.ref p) H'
def spPlain (K : PySem.W.Frag) (C : Addr) : Sp := fun vs H Q _ => ∃ (r : Addr) (rs : RowsL), vs = [.ref r] ∧ RdAt K C H r rs ∧ RdOk rs ∧ ∀ H', Same H H' → Q (.bl ((lnsOf rs).all fun l => decide (l.word = "read"))) H'
def spLen (K : PySem.W.Frag) (C : Addr) : Sp := fun vs H Q _ => ∃ (r : Addr) (rs : RowsL), vs = [.ref r] ∧ RdAt K C H r rs ∧ Q (.int (rs.length : Int)) H
/-- what isinstance asks of the class -/
structure TxI (K : PySem.W.Frag) (C : Addr) : Prop where
  ha : PySem.W.findIn K (.ref C) "__class__" = some (some (.builtin "object.__class__"))
  hn : PySem.W.specialIn K (.builtin "object.__class__") "__get__" = some (some (.builtin "getset_descriptor.__get__"))
  htk : PySem.W.takesIn K (.builtin "object.__class__") = some true
  hm : PySem.W.mroIn K C (.type "object") = some true
  self : PySem.W.kitOne K (.ref C) (.ref C) = some true
  no : ∀ t ∈ tys, PySem.W.kitOne K (.type t) (.ref C) = some false
/-- another value than a reader, and no instance -/
def NoRd (K : PySem.W.Frag) (H : Hp) (v : V) : Prop := ∃ t, t ∈ tys ∧ TyX K H v (.type t)
theorem dp_no {K : PySem.W.Frag} {H : Hp} {v : V} {d : PyData} (h : Dp K H v d) : NoRd K H v := ⟨_, mem_ty d, dp_ty h⟩
def spEqR (K : PySem.W.Frag) (C : Addr) : Sp := fun vs H Q _ => ∃ (r : Addr) (rs : RowsL) (v : V), vs = [.ref r, v] ∧ RdAt K C H r rs ∧ RdOk rs ∧
  ((∃ b ss, v = .ref b ∧ RdAt K C H b ss ∧ RdOk ss ∧ Q (.bl (decide (lnsOf rs = lnsOf ss))) H) ∨ (NoRd K H v ∧ Q (.bl false) H))
def spHas (K : PySem.W.Frag) (C : Addr) : Sp := fun vs H Q _ => ∃ (r : Addr) (rs : RowsL) (v : V), vs = [.ref r, v] ∧ RdAt K C H r rs ∧ RdOk rs ∧
  ((∃ d, Dp K H v d ∧ SeqAt.shaped d = true ∧ Mod_ d ∧ ∀ H', Same H H' → Q (.bl (lineD d rs.length && (lnsOf rs).any fun l => PyData.eqv l.d d)) H') ∨ (TyX K H v (.type "dict") ∧ Q (.bl false) H))
def rdText (n m : Nat) : Str := (((("reader of " : Str) ++ toString (n : Int)) ++ (" lines, " : Str)) ++ toString (m : Int)) ++ (" tested" : Str)
def spStr (K : PySem.W.Frag) (C : Addr) : Sp := fun vs H Q _ => ∃ (r : Addr) (rs : RowsL), vs = [.ref r] ∧ RdAt K C H r rs ∧ RdOk rs ∧ ∀ ps, Asc (keysOf ["if"] (lnsOf rs)) ps → Q (.str (rdText rs.length ps.length)) H
section
variable {P : Program} {w : World} {K : PySem.W.Frag} {mg : Str → Option Value} {base : Heap}
theorem sc1 {st : Stmt} (h : FnScope ["self"] ["self"] (defScope st)) : FnScope ["self"] ["self"] (defScope st) := h
theorem scLs : FnScope ["self"] ["self"] (defScope sLines) := ⟨rfl, rfl, rfl, by decide +kernel, rfl, by decide +kernel, by decide +kernel⟩
theorem scTs : FnScope ["self"] ["self"] (defScope sTested) := ⟨rfl, rfl, rfl, by decide +kernel, rfl, by decide +kernel, by decide +kernel⟩
theorem ok_lines {C f : Addr} {fd : FuncData} (F : Fun K "lines" "Reader.lines" sLines f fd) (T : TxR0 K mg P w base C) : FnOk P w K mg base CX0 1 f fd ["self"] (getSp C "_lines") := by
  refine F.ok scLs (fun vs H Q E h => ?_) (fun cdv A outer s H vs Q E hr h => ?_)
  · obtain ⟨a, dx, fs, v, rfl, _⟩ := h; rfl
  · obtain ⟨a, dx, fs, v, rfl, ea, l, q⟩ := h
    exact ⟨_, pss_one (ps_ret (pe_fld (pv 0) rfl)), ⟨_, rfl, a, C, dx, fs, v, rfl, ea, T.cl, T.nL, l, q⟩⟩
theorem ok_tested {C f : Addr} {fd : FuncData} (F : Fun K "tested" "Reader.tested" sTested f fd) (T : TxR0 K mg P w base C) : FnOk P w K mg base CX0 1 f fd ["self"] (getSp C "_tested") := by
  refine F.ok scTs (fun vs H Q E h => ?_) (fun cdv A outer s H vs Q E hr h => ?_)
  · obtain ⟨a, dx, fs, v, rfl, _⟩ := h; rfl
  · obtain ⟨a, dx, fs, v, rfl, ea, l, q⟩ := h
    exact ⟨_, pss_one (ps_ret (pe_fld (pv 0) rfl)), ⟨_, rfl, a, C, dx, fs, v, rfl, ea, T.cl, T.nT, l, q⟩⟩
theorem scPs : FnScope ["self"] ["self"] (defScope sPrs) := ⟨rfl, rfl, rfl, by decide +kernel, rfl, by decide +kernel, by decide +kernel⟩
theorem ok_prs {C f : Addr} {fd : FuncData} (F : Fun K "pairs" "Reader.pairs" sPrs f fd) (T : TxR0 K mg P w base C) : FnOk P w K mg base CX0 3 f fd ["self"] (spPrs K C) := by
  obtain ⟨q, qd, mQ, kQ, bQ, GQ⟩ := T.pairs
  refine F.ok scPs (fun vs H Q E h => ?_) (fun cdv A outer s H vs Q E hr h => ?_)
  · obtain ⟨r, rs, rfl, _⟩ := h; rfl
  · obtain ⟨r, rs, rfl, ⟨dx, L, TT, ps, e, hL, _⟩, ok, k⟩ := h
    refine ⟨_, pss_one (ps_ret (pe_call GQ hr (by rfl) mQ kQ bQ .nil pass0 (pa_cons (pe_fld (pv 0) rfl) (pa_cons (pe_tup (pa_cons pe_str (pa_cons pe_str (pa_cons pe_str pa_nil)))) pa_nil)))), ?_⟩
    refine ⟨_, rfl, r, C, dx, _, _, rfl, e, T.cl, T.nL, rd_lines L TT, (by show 3 ≤ sizeLine; decide), fun t nt => ?_⟩
    have st := same_new (o := HO.tup [V.str "read", V.str "look", V.str "if"]) nt
    exact ⟨L, t, rs, ["read", "look", "if"], rfl, hL.up st, SqT.of upd_same, (by decide +kernel), by have := ok.few; omega, fun H' p qs s' np hA hP => k H' p qs (st.trans s') (st.free np) hA hP⟩
theorem scPl : FnScope ["self", "line"] ["self"] (defScope sPlain) := ⟨rfl, rfl, rfl, by decide +kernel, rfl, by decide +kernel, by decide +kernel⟩
theorem ok_plain {C f : Addr} {fd : FuncData} (F : Fun K "is_plain" "Reader.is_plain" sPlain f fd) (T : TxR0 K mg P w base C) : FnOk P w K mg base CX0 1 f fd ["self"] (spPlain K C) := by
  refine F.ok scPl (fun vs H Q E h => ?_) (fun cdv A outer s H vs Q E hr h => ?_)
  · obtain ⟨r, rs, rfl, _⟩ := h; rfl
  · obtain ⟨r, rs, rfl, ⟨dx, L, TT, ps, e, hL, _⟩, ok, k⟩ := h
    refine ⟨_, pss_one (ps_ret (pe_callB (cr_all rfl) (by rfl) T.all PyProof.Rows.boot_all (pa_cons (pe_lc (own := [("line", 1)]) (g := gName 1) (tt := tYes) (te := tOp rEq (tOp (rIxT K) (tVar 1) (tC (.int 0))) (tC (.str "read"))) rfl scPl.nd (pi_tup (pe_fld (pv 0) rfl))
        (blkOk_by (N := ["self", "line"]) (sc := defScope sPlain) (by decide +kernel)) (fun _ _ _ _ _ => pg_name (i := 1) scPl.nd rfl (Or.inl rfl)) (fun _ _ _ _ _ => pts_nil)
        (fun _ _ _ _ _ => pe_cmpR op_eq (pe_ix ix_tup (pv 1) pe_int (fun _ _ => rfl)) pe_str (nomark _))) pa_nil))), ?_⟩
    refine ⟨_, rfl, r, C, dx, _, _, rfl, e, T.cl, T.nL, rd_lines L TT, L, rfl, ⟨_, hL.1⟩, fun D hD => ?_⟩
    have off : Off D (fun i acc (_ : Hp) => acc = (rs.take i).map fun r => V.bl (decide (r.2.word = ("read" : Str)))) := fun _ _ _ _ _ _ _ z => z
    refine lc_fil walk_tup hD (fun i acc _ => acc = (rs.take i).map fun r => V.bl (decide (r.2.word = ("read" : Str)))) (by simp) (fun H' s' => sqT_up hL.1 s') ?_ ?_
    · rintro i v acc H2 H3 hi s2 e2 rfl ⟨rfl, hv⟩
      rw [List.getElem?_map] at hv
      obtain ⟨q, hq, rfl⟩ := Option.map_eq_some_iff.mp hv
      refine ⟨rfl, tt_yes ?_⟩
      refine ⟨_, rfl, q.1, _, _, _, rfl, rfl, sqT_up (hL.2 q (List.mem_of_getElem? hq)) s2, atI_nat (j := 0) (ln_word q.2), rfl, ?_⟩
      refine put_of hD off s2 e2 (Same.refl _) (by rw [List.length_map, List.length_take, sizeLine_eq]; have := ok.few; omega) ?_
      rw [List.take_add_one, hq, List.map_append]
      congr 1
      show [V.bl (decide (V.str q.2.word = V.str "read"))] = [V.bl (decide (q.2.word = ("read" : Str)))]
      simp
    · rintro acc H2 s2 e2 rfl
      refine ⟨D, rs.map fun r => decide (r.2.word = ("read" : Str)), rfl, SqL.of (by rw [e2, List.length_map, List.take_length, List.map_map]; rfl), ?_⟩
      have := k _ s2
      rw [lnsOf, List.all_map] at this
      rw [List.all_map]
      exact this
theorem scLe : FnScope ["self"] ["self"] (defScope sLen) := ⟨rfl, rfl, rfl, by decide +kernel, rfl, by decide +kernel, by decide +kernel⟩
theorem ok_len {C f : Addr} {fd : FuncData} (F : Fun K "__len__" "Reader.__len__" sLen f fd) (T : TxR0 K mg P w base C) : FnOk P w K mg base CX0 1 f fd ["self"] (spLen K C) := by
  refine F.ok scLe (fun vs H Q E h => ?_) (fun cdv A outer s H vs Q E hr h => ?_)
  · obtain ⟨r, rs, rfl, _⟩ := h; rfl
  · obtain ⟨r, rs, rfl, ⟨dx, L, TT, ps, e, hL, _⟩, k⟩ := h
    refine ⟨_, pss_one (ps_ret (pe_callB call_lenT (by rfl) T.len PySem.boot_len (pa_cons (pe_fld (pv 0) rfl) pa_nil))), ?_⟩
    refine ⟨_, rfl, r, C, dx, _, _, rfl, e, T.cl, T.nL, rd_lines L TT, L, _, rfl, hL.1, ?_⟩
    rw [List.length_map]; exact k
theorem lns_safe {rs : RowsL} (ok : RdOk rs) : ∀ l ∈ lnsOf rs, l.safe := fun l hl => by
  obtain ⟨r, hr, rfl⟩ := List.mem_map.mp hl
  exact fine_safe (ok.fine r hr)
theorem scEq : FnScope ["self", "other"] ["self", "other"] (defScope sEq) := ⟨rfl, rfl, rfl, by decide +kernel, rfl, by decide +kernel, by decide +kernel⟩
theorem ok_eq {C f : Addr} {fd : FuncData} (F : Fun K "__eq__" "Reader.__eq__" sEq f fd) (T : TxR0 K mg P w base C) (I : TxI K C) : FnOk P w K mg base CX0 1 f fd ["self", "other"] (spEqR K C) := by
  refine F.ok scEq (fun vs H Q E h => ?_) (fun cdv A outer s H vs Q E hr h => ?_)
  · obtain ⟨r, rs, v, rfl, _⟩ := h; rfl
  · obtain ⟨r, rs, v, rfl, ⟨dx, L, TT, ps, e, hL, _⟩, ok, k⟩ := h
    refine ⟨_, pss_one (ps_ret (pe_and (pe_callB call_isi (by rfl) T.isi PyProof.Rows.boot_isinstance (pa_cons (pv 1) (pa_cons (pe_glob (v := .ref C) (by rfl) T.mgC rfl) pa_nil)))
      (pe_one (pe_cmpR (op_eqD hr.units) (pe_fld (pv 0) rfl) (pe_fld (pv 1) rfl) (nomark _))))), ?_⟩
    rcases k with ⟨b, ss, rfl, ⟨dx2, L2, TT2, ps2, e2, hL2, _⟩, ok2, k⟩ | ⟨⟨t, ht, ty⟩, k⟩
    · refine ⟨_, rfl, .ref b, .ref C, .ref C, .ref C, true, rfl, .own C, .base (.ins e2 T.cl I.ha I.hn I.htk I.hm), I.self, _, rfl, iteT ?_⟩
      refine ⟨_, rfl, r, C, dx, _, _, rfl, e, T.cl, T.nL, rd_lines L TT, _, rfl, b, C, dx2, _, _, rfl, e2, T.cl, T.nL, rd_lines L2 TT2, ?_⟩
      refine ⟨_, _, hL.dp, hL2.dp, dls_shaped (lns_safe ok), dls_shaped (lns_safe ok2), ?_⟩
      rw [dls_eqv]
      exact k
    · exact ⟨_, rfl, v, .ref C, .type t, .ref C, false, rfl, .own C, ty, I.no t ht, _, rfl, iteF k⟩
theorem scHa : FnScope ["self", "x"] ["self", "x"] (defScope sHas) := ⟨rfl, rfl, rfl, by decide +kernel, rfl, by decide +kernel, by decide +kernel⟩
theorem ok_has {C f : Addr} {fd : FuncData} (F : Fun K "__contains__" "Reader.__contains__" sHas f fd) (T : TxR0 K mg P w base C) : FnOk P w K mg base CX0 5 f fd ["self", "x"] (spHas K C) := by
  obtain ⟨g, gd, mG, kG, bG, GG⟩ := T.line
  refine F.ok scHa (fun vs H Q E h => ?_) (fun cdv A outer s H vs Q E hr h => ?_)
  · obtain ⟨r, rs, v, rfl, _⟩ := h; rfl
  · obtain ⟨r, rs, v, rfl, ⟨dx, L, TT, ps, e, hL, _⟩, ok, k⟩ := h
    have hu65 : (A.deeper (envOfC (Str.ofString "Reader.__contains__") (defScope sHas) s.heap.objs.size f cdv)).units + 65 < cLine := by have := hr.un; omega
    refine ⟨_, pss_one (ps_ret (pe_and (pe_call GG hr (by rfl) mG kG bG .nil pass0 (pa_cons (pv 1) (pa_cons (pe_callB call_lenT (by rfl) T.len PySem.boot_len (pa_cons (pe_fld (pv 0) rfl) pa_nil)) pa_nil)))
      (pe_one (pe_cmpR (op_inDT hu65) (pv 1) (pe_fld (pv 0) rfl) (by rfl))))), ?_⟩
    refine ⟨_, rfl, _, rfl, r, C, dx, _, _, rfl, e, T.cl, T.nL, rd_lines L TT, L, _, rfl, hL.1, v, _, rfl, ?_⟩
    rw [List.length_map]
    rcases k with ⟨d, hd, sd, md, k⟩ | ⟨ty, k⟩
    · refine .inl ⟨d, hd, sd, md, fun H' s' => ⟨_, rfl, ?_⟩⟩
      have k' := k H' s'
      refine ite2 (fun c => ?_) (fun c => ?_)
      · refine ⟨_, rfl, _, rfl, r, C, dx, _, _, rfl, s' _ _ e, T.cl, T.nL, rd_lines L TT, d, _, dp_up s' hd, (hL.up s').dp, sd, lns_lay _ (lns_safe ok), ?_⟩
        rw [c, Bool.true_and] at k'
        rw [Bool.bne_false, List.any_map]
        exact k'
      · rw [Bool.not_eq_true _ |>.mp c, Bool.false_and] at k'
        exact k'
    · exact .inr ⟨ty, _, rfl, iteF k⟩
theorem scSt : FnScope ["self"] ["self"] (defScope sStr) := ⟨rfl, rfl, rfl, by decide +kernel, rfl, by decide +kernel, by decide +kernel⟩
theorem num_few : ∀ n : Nat, n < 17 → (toString (n : Int) : Str).length ≤ 2 ∧ (n : Int).natAbs.log2 < 1920 := by decide +kernel
theorem app_len (x y : Str) : (x ++ y).length = x.length + y.length := by
  show (x.cps ++ y.cps).size = _
  rw [Array.size_append]; rfl
theorem emp_app (x : Str) : Str.empty ++ x = x := by
  show Str.mk (Str.empty.cps ++ x.cps) = x
  have : Str.empty.cps = #[] := rfl
  rw [this, Array.empty_append]
theorem ok_str {C f : Addr} {fd : FuncData} (F : Fun K "__str__" "Reader.__str__" sStr f fd) (T : TxR0 K mg P w base C) : FnOk P w K mg base CX0 1 f fd ["self"] (spStr K C) := by
  refine F.ok scSt (fun vs H Q E h => ?_) (fun cdv A outer s H vs Q E hr h => ?_)
  · obtain ⟨r, rs, rfl, _⟩ := h; rfl
  · obtain ⟨r, rs, rfl, ⟨dx, L, TT, ps, e, hL, hA, hP⟩, ok, k⟩ := h
    refine ⟨_, pss_one (ps_ret (pe_joined (.cons pe_str (.cons (pe_fmt (pe_callB call_lenT (by rfl) T.len PySem.boot_len (pa_cons (pe_fld (pv 0) rfl) pa_nil))) (.cons pe_str (.cons (pe_fmt (pe_callB call_lenT (by rfl) T.len PySem.boot_len (pa_cons (pe_fld (pv 0) rfl) pa_nil))) (.cons pe_str .nil))))))), ?_⟩
    have n1 := num_few rs.length (by have := ok.few; omega)
    have n2 := num_few ps.length (by have := ok.six ps hA; omega)
    obtain ⟨prs, ep, hp1, hp2⟩ := id hP
    have el : (prs.map fun r => V.ref r.1).length = ps.length := by rw [← ep, List.length_map, List.length_map]
    have l1 : (("reader of " : Str)).length = 10 := by decide +kernel
    have l2 : ((" lines, " : Str)).length = 8 := by decide +kernel
    have l3 : ((" tested" : Str)).length = 7 := by decide +kernel
    refine ⟨_, rfl, by rw [emp_app, l1, sizeLine_eq]; omega, _, rfl, r, C, dx, _, _, rfl, e, T.cl, T.nL, rd_lines L TT, L, _, rfl, hL.1, .inr ⟨_, rfl, by rw [List.length_map]; exact n1.2, _, rfl, ?_, ?_⟩⟩
    · rw [emp_app, app_len, List.length_map, l1, sizeLine_eq]; omega
    · refine ⟨_, rfl, ?_, _, rfl, r, C, dx, _, _, rfl, e, T.cl, T.nT, rd_tested L TT, TT, _, rfl, hp1, .inr ⟨_, rfl, by rw [el]; exact n2.2, _, rfl, ?_, ?_⟩⟩
      · rw [emp_app, app_len, app_len, List.length_map, l1, l2, sizeLine_eq]; omega
      · rw [emp_app, app_len, app_len, app_len, el, List.length_map, l1, l2, sizeLine_eq]; omega
      · refine ⟨_, rfl, ?_, ?_⟩
        · rw [emp_app, app_len, app_len, app_len, app_len, el, List.length_map, l1, l2, l3, sizeLine_eq]; omega
        · rw [emp_app, el, List.length_map]
          exact k ps hA
end
end Rd

/-! An exception of an own class with an __init__, over any built-in base: made, its field stored -/
namespace PySem
namespace Mk0
open PySem.W PySem.Calls PyProof.Rows PySem.HandSPX Builtin Builtin.ObjectAttr
/-- what is asked of the classes behind the own one -/
structure Bm (B : String) (bm : List Value) : Prop where
  b : bm.contains (.type B) = true
  a : bm.contains (.type "AttributeError") = false
  n : bm.contains (.type "NameError") = false
  o : bm.contains (.type "object") = true
  e : bm.isEmpty = false
  p : ∀ self, refuseLoop self "__setattr__" bm = pure ()
section
variable {M : Model} {A : Around} {E : Value → Shared → Prop} {h : Heap} {g : Array GenState} {d : Drawn} {t : Nat} {os : OsState}
variable {cn cq : Str} {C NS : Addr} {bs bm bmB : List Value} {hd : Bool} {sn : List Str} {su : List Value} {ab : Bool} {co : Option Bool} {dd : Option Addr} {m0 m1 m2 m3 m5 : Option Value} {B newId initId : String}
theorem chk_new (F : ExcBaseFacts B newId initId bmB) (Z : Bm B bm) {us : List Value} {Q : Unit → Shared → Prop} (hC : h.get? C = some (excClassObj cn cq C NS bs bm hd sn su ab co dd m0 m1 m2 m3 m5 newId)) (hq : Q () ⟨h, g, d, t, os⟩) :
    wpAny M A (checkBuiltinCall newId ⟨.ref C :: us, []⟩) Q E ⟨h, g, d, t, os⟩ := by
  have z1 : (Value.ref C :: bm).contains (.type B) = true := by (rw [List.contains_cons, Z.b, Bool.or_true])
  have z2 := F.noStar; (simp only [checkBuiltinCall, F.newKind, F.newSplit, F.newRow])
  repeat (first | refine wpAny_loadPart_at hC ?_ | (refine wpAny_isSubtype_exc hC ?_; rw [z1]) | refine wpAny_staticBase_exc hC ?_ | refine wpAny_madeBy_exc hC ?_ | (simp only [bne_self_eq_false, Bool.false_eq_true, if_false]) | wp_step)
  exact hq
end
section
variable {prog : Program} {w : World} {A : Around} {E : Value → Shared → Prop} {R : Result → Shared → Prop} {h : Heap} {g : Array GenState} {d : Drawn} {t : Nat} {os : OsState}
variable {cn cq : Str} {C NS : Addr} {bs bm bmB : List Value} {hd : Bool} {sn : List Str} {su : List Value} {ab : Bool} {co : Option Bool} {dd : Option Addr} {m0 m1 m2 m3 m5 : Option Value} {B newId initId : String}
theorem new_any (F : ExcBaseFacts B newId initId bmB) (Z : Bm B bm) {us : List Value} (hC : h.get? C = some (excClassObj cn cq C NS bs bm hd sn su ab co dd m0 m1 m2 m3 m5 newId))
    (hq : R (.ok (.ret (.ref (h.objs.size + 1)))) ⟨(h.push (W.kdv_tup us)).push (excO C h.objs.size), g, d, t, os⟩) (hz : us.length ≤ sizeLine) : codeAny (model prog w) A (.builtin newId ⟨.ref C :: us, []⟩) R ⟨h, g, d, t, os⟩ := by
  have z0 := F.ends; have z1 : (Value.ref C :: bm).contains (.type B) = true := by (rw [List.contains_cons, Z.b, Bool.or_true])
  have z2 : (Value.ref C :: bm).contains (.type "AttributeError") = false := by (rw [List.contains_cons, Z.a]; rfl)
  have z3 : (Value.ref C :: bm).contains (.type "NameError") = false := by (rw [List.contains_cons, Z.n]; rfl)
  refine codeAny_builtinAt F.entry ?_; unfold Builtin.«BaseException.__new__»; refine wpAt_bind ?_
  show wpAt _ _ _ (stack >>= _) _ _ _; refine wpAt_bind (wpAt_stack fun p below => wpAt_of_wpAny ?_)
  wp_walk; refine wpAt_of_wpAny ?_; rw [F.owner]
  repeat (first | with_reducible refine wpAny_madeHere_exc F.canon hC ?_ | with_reducible refine wpAny_loadPart_at hC ?_ | (with_reducible refine wpAny_isSubtype_exc hC ?_; first | rw [z1] | rw [z2] | rw [z3]) | wp_step)
  show R _ _; rw [Heap.size_push]; exact hq
theorem type_call_any (F : ExcBaseFacts B newId initId bmB) (Z : Bm B bm) {us : List Value} {fI : Addr} {Q : Fin → Shared → Prop} (hC : h.get? C = some (excClassObj cn cq C NS bs bm hd sn su ab co dd m0 m1 m2 m3 m5 newId))
    (hi : W.Looks (model prog w) h (typeLookup (.ref C) "__init__") (some (.ref fI))) (hb : ∀ self, W.Looks (model prog w) h (bindSpecial (.ref fI) self) (.ref fI, [self])) (hz : us.length ≤ sizeLine)
    (hq : codeAny (model prog w) A (.call (.ref fI) ⟨.ref (h.objs.size + 1) :: us, []⟩) (fun r s' => match r with | .ok (.ret v) => v = .none ∧ Q (.done (.ret (.ref (h.objs.size + 1)))) s' | .ok _ => False | .error e => E e s') ⟨(h.push (W.kdv_tup us)).push (excO C h.objs.size), g, d, t, os⟩) :
    wpAny (model prog w) A (Builtin.«type.__call__» ⟨.ref C :: us, []⟩) Q E ⟨h, g, d, t, os⟩ := by
  repeat (first | with_reducible refine wpAny_loadPart_at hC ?_ | with_reducible refine wpAny_madeBy_exc hC ?_ | wp_step)
  refine codeAny_call_builtin_code (Code.quiet_builtin _ F.quiet) (chk_new F Z hC ?_); refine new_any F Z hC ?_ hz; show wpAny _ _ _ _ _ _
  have k : ∀ b o, h.get? b = some o → ((h.push (W.kdv_tup us)).push (excO C h.objs.size)).get? b = some o := fun b o e => Heap.get?_push_of_some _ (Heap.get?_push_of_some _ e)
  have hC2 := k _ _ hC; have hg2 : ((h.push (W.kdv_tup us)).push (excO C h.objs.size)).get? (h.objs.size + 1) = some (excO C h.objs.size) := by heap_get
  have z4 : (Value.ref C :: bm).contains (.ref C) = true := by simp
  have i1 := hi.keeps k; have b1 := (hb (.ref (h.objs.size + 1))).keeps k; unfold isInstance
  repeat (first | with_reducible refine wpAny_loadPart_at hg2 ?_ | (with_reducible refine wpAny_isSubtype_exc hC2 ?_; rw [z4]) | wp_step)
  show wpAny _ _ (typeLookup (.ref C) _) _ _ _; refine i1.at ?_; refine wpAny_holding (wpAny_bind (b1.at ?_))
  refine wpAny_bind (wpAny_call (codeAny_mono hq fun r s' z => ?_)); rcases r with e | (v | _ | _ | _) <;> first | exact z | exact z.elim | skip
  obtain ⟨rfl, z⟩ := z; first | exact wpAny_pure (wpAny_pure z) | (wp_walk; exact z)
theorem call_any (F : ExcBaseFacts B newId initId bmB) (Z : Bm B bm) {us : List Value} {fI : Addr} (hC : h.get? C = some (excClassObj cn cq C NS bs bm hd sn su ab co dd m0 m1 m2 m3 m5 newId))
    (hi : W.Looks (model prog w) h (typeLookup (.ref C) "__init__") (some (.ref fI))) (hb : ∀ self, W.Looks (model prog w) h (bindSpecial (.ref fI) self) (.ref fI, [self])) (hz : us.length ≤ sizeLine)
    (hq : codeAny (model prog w) (A.under (.builtin "type.__call__" ⟨.ref C :: us, []⟩)) (.call (.ref fI) ⟨.ref (h.objs.size + 1) :: us, []⟩) (W.InitBack (h.objs.size + 1) R) ⟨(h.push (W.kdv_tup us)).push (excO C h.objs.size), g, d, t, os⟩) :
    codeAny (model prog w) A (.call (.ref C) ⟨us, []⟩) R ⟨h, g, d, t, os⟩ := by
  have f1 := tc_lookup; have f2 := tc_bind (.ref C); have f3 : (⟨h, g, d, t, os⟩ : Shared).TypeIs (.ref C) "type" := ⟨_, hC, rfl⟩
  refine codeAny_of_tree ?_; show wpAny _ _ (callAny (.ref C) _) _ _ _
  repeat (any_goals (first | assumption | with_reducible refine wpAny_loadPart_at hC ?_ | wp_step))
  refine ⟨rfl, ?_⟩; refine codeAny_call_builtin_at (Code.quiet_builtin _ (by decide +kernel)) entry_typeCall (wpAny_check_type_call_sub hC (type_call_any F Z hC hi hb hz ?_))
  refine codeAny_mono hq fun r s' z => ?_; rcases r with e | (v | _ | _ | _) <;> exact z
/-- self.name = v, the exception has no dict yet -/
theorem osa_any {K : W.Frag} {name : Str} {tk : Tok} {v : Value} {x : Addr} {fv : Array Value} {cd : ClassData} (X : K.In h) (hx : h.get? x = some { cls := .ref C, data := .fields fv }) (hcd : W.clsIn K C = some cd) (hm : cd.mro = .ref C :: bm) (Z : Bm B bm)
    (hh : cd.hasDict = true) (ha : W.findIn K (.ref C) name = some none)
    (hq : ∀ h' tk' dx, (∀ b o, b ≠ x → h.get? b = some o → h'.get? b = some o) → h.objs.size ≤ dx → dx ≠ x → h'.get? x = some { cls := .ref C, dict := some dx, data := .fields fv } → h'.Ns1 dx (fun y => if y = name then some v else none) → R (.ok (.ret .none)) ⟨h', g, d, tk', os⟩) :
    codeAny (model prog w) A (.call (.builtin "object.__setattr__") ⟨[.ref x, .str name tk, v], []⟩) R ⟨h, g, d, t, os⟩ := by
  have I : W.InstAt h x { cls := .ref C, data := .fields fv } C none := ⟨hx, rfl, rfl, trivial⟩
  have SF := F.store_object; have ne : cd.mro.isEmpty = false := by (rw [hm]; rfl)
  have ho : cd.mro.contains (.type "object") = true := by (rw [hm, List.contains_cons, Z.o, Bool.or_true])
  have hxs : x ≠ h.objs.size := Nat.ne_of_lt (Heap.lt_size hx)
  have sub : W.Looks (model prog w) h (isInstance (.ref x) (.type "object")) true := I.type.andThen (W.looks_mroIn X (by (unfold W.mroIn; rw [hcd, Option.bind_some, if_neg (by rw [ne]; decide), ho])))
  refine codeAny_call_builtin SF.slot.plain SF.entry (@W.check_slot (model prog w) _ _ ⟨h, g, d, t, os⟩ "object.__setattr__" "object" "__setattr__" (.ref x) [.str name tk, v] [] _ SF.kind SF.split sub (SF.args (.ref x) (.str name tk) v) ?_)
  have l1 : W.Looks (model prog w) h (mroOf (.ref C)) cd.mro := (W.looks_clsIn X hcd).andThen .now; have l3 : W.Looks (model prog w) h (storeTaker? none) none := .now
  have l4 : W.Looks (model prog w) h (classData C) cd := W.looks_clsIn X hcd
  have pass : refuseLoop (.ref x) "__setattr__" cd.mro = pure () := by (rw [hm, refuseLoop_ref]; exact Z.p _)
  rw [W.osa_eq, refuse_eq]; refine wpAny_bind (wpAny_bind (I.type.at (wpAny_bind (l1.at ?_)))); rw [pass]
  refine wpAny_pure (wpAny_bind (I.type.at (wpAny_bind ((W.looks_findIn X ha).at (wpAny_bind (l3.at ?_)))))); show wpAny _ _ (storeInOwnDict (.ref x) (.ref C) (.str name tk) name v false) _ _ _
  obtain ⟨nm, bs', mro, ns, qn, hd', sn', sb, ab', col, del⟩ := cd; dsimp only at hh; subst hh; unfold storeInOwnDict ownDictForStores
  repeat (first | with_reducible refine store_in_new ?_ ?_ | with_reducible refine wpAny_loadPart_at hx ?_ | with_reducible refine l4.at ?_ | wp_step)
  · exact ⟨_, #[], _, (Heap.get?_update_ne _ _ _ _ hxs.symm).trans (Heap.get?_push_at rfl rfl), rfl, fun e he => absurd he (by simp), fun _ => rfl⟩
  · intro h' tk' hn' hs; have hx₁ : (h.push { cls := .type "dict", data := .dict #[] }).get? x = some { cls := .ref C, data := .fields fv } := Heap.get?_push_of_some _ hx
    refine hq h' tk' h.objs.size (fun b o hb ho => ?_) (Nat.le_refl _) hxs.symm ?_ hn'
    · exact (hs.2 b (Nat.ne_of_lt (Heap.lt_size ho))).trans ((Heap.get?_update_ne _ _ _ _ hb).trans (Heap.get?_push_of_some _ ho))
    · exact (hs.2 x hxs).trans (Heap.get?_update_self _ hx₁ rfl)
end
/-- the six bases -/
abbrev bIx : List Value := [.type "IndexError", .type "LookupError", .type "Exception", .type "BaseException", .type "object"]
abbrev bKey : List Value := [.type "KeyError", .type "LookupError", .type "Exception", .type "BaseException", .type "object"]
abbrev bOv : List Value := [.type "OverflowError", .type "ArithmeticError", .type "Exception", .type "BaseException", .type "object"]
abbrev bRt : List Value := [.type "RuntimeError", .type "Exception", .type "BaseException", .type "object"]
abbrev bAr : List Value := [.type "ArithmeticError", .type "Exception", .type "BaseException", .type "object"]
abbrev bLk : List Value := [.type "LookupError", .type "Exception", .type "BaseException", .type "object"]
theorem z_ix : Bm "IndexError" bIx := ⟨by (decide +kernel), by (decide +kernel), by (decide +kernel), by (decide +kernel), rfl, fun self => by kernel_rfl⟩
theorem z_key : Bm "LookupError" bKey := ⟨by (decide +kernel), by (decide +kernel), by (decide +kernel), by (decide +kernel), rfl, fun self => by kernel_rfl⟩
theorem z_ov : Bm "OverflowError" bOv := ⟨by (decide +kernel), by (decide +kernel), by (decide +kernel), by (decide +kernel), rfl, fun self => by kernel_rfl⟩
theorem z_rt : Bm "RuntimeError" bRt := ⟨by (decide +kernel), by (decide +kernel), by (decide +kernel), by (decide +kernel), rfl, fun self => by kernel_rfl⟩
theorem z_ar : Bm "ArithmeticError" bAr := ⟨by (decide +kernel), by (decide +kernel), by (decide +kernel), by (decide +kernel), rfl, fun self => by kernel_rfl⟩
theorem z_lk : Bm "LookupError" bLk := ⟨by (decide +kernel), by (decide +kernel), by (decide +kernel), by (decide +kernel), rfl, fun self => by kernel_rfl⟩
#check @F.excBase_LookupError
#check @F.excBase_OverflowError
#check @F.excBase_RuntimeError
#check @F.excBase_ArithmeticError
end Mk0
end PySem

namespace PySem
namespace Mk0
open PySem.W PySem.Calls PyProof.Rows PySem.HandSPX
/-! the text of __init__(self, f): self.f = f -/
def oA (f : Str) (p1 p2 : Pos) : Arguments := { posonlyargs := [], args := [{ arg := "self", annotation := none, pos := p1 }, { arg := f, annotation := none, pos := p2 }], vararg := none, kwonlyargs := [], kw_defaults := [], kwarg := none, defaults := [] }
def oB (f : Str) (q1 q2 q3 q4 : Pos) : List Stmt := [.Assign [.Attribute (.Name "self" q1) f q2] (.Name f q3) q4]
def oS (f : Str) : Scope := { kind := .function, names := [(PySem.Str.ofString "self", .local), (f, .local)], isGenerator := false, isCoroutine := false, more := [] }
/-- the field names of this program -/
abbrev fNames : List Str := ["value", "name", "limit", "readers", "paper", "many"]
/-- what the written part says of the class at C, of its __init__ at fI -/
structure OTxt (K : Frag) (C fI : Addr) (f qual : Str) (B newId : String) (bm : List Value) : Prop where
  fn : f ∈ fNames
  F : ∃ initId bmB, ExcBaseFacts B newId initId bmB
  Z : Bm B bm
  cls : ∃ nm q N bs sn sub ab col dd k0 k1 k2 k3 k5, K.lookup C = some (excClassObj nm q C N bs bm true sn sub ab col dd k0 k1 k2 k3 k5 newId)
  sa : findIn K (.ref C) "__setattr__" = some (some (.builtin "object.__setattr__"))
  ga : findIn K (.ref C) "__getattribute__" = some (some (.builtin "BaseException.__getattribute__"))
  gg : findIn K (.ref C) "__getattr__" = some none
  noN : findIn K (.ref C) f = some none
  iC : findIn K (.ref C) "__init__" = some (some (.ref fI))
  tC : typeIn K (.ref fI) = some (.type "function")
  kC : keepIn K (.ref C) = true
  exC : subIn K (.ref C) (.type "BaseException") = some true
  tyC : typeIn K (.ref C) = some (.type "type")
  hdC : hasDictIn K C = true
  def_ : ∃ (oc : Value) (od : Option Addr) (doc pm : Value) (an : Option Addr) (cdv ct : Value) (osl : Array (Option Value)) (p1 p2 q1 q2 q3 q4 : Pos),
    K.lookup fI = some ⟨oc, od, .func (fnOf "__init__" qual (oA f p1 p2) (oB f q1 q2 q3 q4) (oS f) .none .none doc pm an cdv ct), osl⟩ ∧ codeIn K cdv qual = true
theorem ld_own {M : Model} {s : Shared} {name : Str} {scope : Scope} {L a : Addr} {cd : Value} {m : Str → Option Value} {x : Str} {pos : Pos} {v : Value} {Q : Value → Shared → Prop} {A : Around} {E : Value → Shared → Prop} (hn : s.heap.Ns L m) (hv : m x = some v) (h : Q v s)
    (hk : scope.kind = .function := by rfl) (hl : (envOfC name scope L a cd).kindOf x = some .local := by rfl) (hd : (x == ("__debug__" : Str)) = false := by decide) : wpAny M A (eval (.Name x pos) (envOfC name scope L a cd)) Q E s := wpAny_Name (wpAny_loadName_local hk hl hn hv h) hd
/-- what __init__ leaves of a fresh exception at x -/
structure OEnd (f : Str) (h h' : Heap) (x C dx t1 : Addr) (v : Value) : Prop where
  keep : ∀ b o, b ≠ x → h.get? b = some o → h'.get? b = some o
  obj : h'.get? x = some { cls := .ref C, dict := some dx, data := .fields #[.ref t1, .none, .none, .none, .bool false, .none] }
  big : h.objs.size ≤ dx
  ne : dx ≠ x
  ns : h'.Ns1 dx (fun y => if y = f then some v else none)
/-- one that is made -/
structure OMade (f : Str) (h h' : Heap) (e C d : Addr) (v : Value) : Prop where
  keep : ∀ b o, h.get? b = some o → h'.get? b = some o
  new : h.objs.size ≤ e
  obj : ∃ t1 : Addr, h'.get? e = some { cls := .ref C, dict := some d, data := .fields #[.ref t1, .none, .none, .none, .bool false, .none] }
  big : h.objs.size ≤ d
  ne : d ≠ e
  ns : h'.Ns1 d (fun y => if y = f then some v else none)
section
variable {prog : Program} {w : World} {A : Around} {E : Value → Shared → Prop} {R : Result → Shared → Prop} {s : Shared} {K : Frag} {C fI : Addr} {f qual : Str} {B newId : String} {bm : List Value}
theorem o_init (T : OTxt K C fI f qual B newId bm) {x t0 : Addr} {v : Value} (X : K.In s.heap) (hlim : s.heap.NoLimit) (hx : s.heap.get? x = some (excO C t0)) (hroom : A.depth < recursionLimit)
    (hq : ∀ h' tk dx, OEnd f s.heap h' x C dx t0 v → R (.ok (.ret .none)) { s with heap := h', toks := tk }) : codeAny (model prog w) A (.call (.ref fI) ⟨[.ref x, v], []⟩) R s := by
  obtain ⟨oc, od, doc, pm, an, cdv, ct, osl, p1, p2, q1, q2, q3, q4, ho, hcd⟩ := T.def_
  obtain ⟨nm, q, N, bs, sn, sub, ab, col, dd, k0, k1, k2, k3, k5, hC⟩ := T.cls
  have hcl : clsIn K C = some { name := nm, bases := bs, mro := .ref C :: bm, ns := N, qualname := q, hasDict := true, slotNames := sn, subclasses := sub, abstract := ab, collection := col, hasDel := false } := by (unfold clsIn; rw [hC] <;> rfl)
  have hf := T.fn; have hsa := T.sa; have hno := T.noN; have hZ := T.Z; clear T
  simp only [fNames, List.mem_cons, List.not_mem_nil, or_false] at hf
  rcases hf with rfl | rfl | rfl | rfl | rfl | rfl
  all_goals (refine Att.call_fn (binds := [("self", .ref x), (_, v)]) X hlim ho hcd hroom (BindsTo.of_eq (by first | rfl | with_unfolding_all rfl)) (by first | rfl | decide | with_unfolding_all rfl) (fun s₁ IC => ?_) rfl rfl rfl)
  all_goals (
    obtain ⟨h₁, tk₁, rfl⟩ := IC.toInCall.same; have k : ∀ b o, s.heap.get? b = some o → h₁.get? b = some o := IC.toInCall.keep; have hn := IC.toInCall.ns
    have hxL : s.heap.objs.size ≠ x := Nat.ne_of_gt (Heap.lt_size hx); have X₁ : K.In h₁ := X.keeps k; have hx₁ := k _ _ hx
    show wpAny _ _ (execs _ _) _ _ _; refine wpAny_execs_cons (plainObj_wpAny_Assign_Attribute ?_)
    refine ld_own (v := v) hn (by first | rfl | with_unfolding_all rfl | kernel_rfl) (ld_own (v := .ref x) hn (by first | rfl | with_unfolding_all rfl | kernel_rfl) ?_)
    refine set_plain X₁ (ox := excO C t0) (od := none) ⟨hx₁, rfl, rfl, trivial⟩ hsa ?_
    refine osa_any X₁ hx₁ hcl rfl hZ rfl hno (fun h₃ tk₃ dx k₃ dn dne hx₃ hn₃ => ?_); show wpAny _ _ (execs _ _) _ _ _
    have z : s.heap.objs.size < h₁.objs.size := hn.lt; exact wpAny_execs_nil (hq h₃ tk₃ dx ⟨fun b o hb e => k₃ b o hb (k b o e), hx₃, Nat.le_of_lt (Nat.lt_of_lt_of_le z dn), dne, hn₃⟩))
theorem one_fits (v : Value) : [v].length ≤ sizeLine := by (rw [sizeLine_eq]; exact (by decide : 1 ≤ 16777216))
theorem o_made (T : OTxt K C fI f qual B newId bm) {v : Value} (X : K.In s.heap) (hlim : s.heap.NoLimit) (hroom : A.depth + 1 < recursionLimit)
    (hq : ∀ h' tk e d, OMade f s.heap h' e C d v → R (.ok (.ret (.ref e))) { s with heap := h', toks := tk }) : codeAny (model prog w) A (.call (.ref C) ⟨[v], []⟩) R s := by
  obtain ⟨nm, q, N, bs, sn, sub, ab, col, dd, k0, k1, k2, k3, k5, hC⟩ := T.cls; obtain ⟨initId, bmB, F⟩ := T.F; obtain ⟨hp, g, dr, tk, os⟩ := s
  have k : ∀ b o, hp.get? b = some o → ((hp.push (kdv_tup [v])).push (excO C hp.objs.size)).get? b = some o := fun b o e => Heap.get?_push_of_some _ (Heap.get?_push_of_some _ e)
  have hget : ((hp.push (kdv_tup [v])).push (excO C hp.objs.size)).get? (hp.objs.size + 1) = some (excO C hp.objs.size) := by heap_get
  refine call_any F T.Z (X _ _ hC) (looks_findIn X T.iC) (fun self => bind_fn X self T.tC) (one_fits v) ?_
  refine o_init (s := ⟨(hp.push (kdv_tup [v])).push (excO C hp.objs.size), g, dr, tk, os⟩) T (X.keeps k) (hlim.keeps k) hget ?_ fun h' tk' dx ⟨k', hx, dn, dne, hns⟩ => ?_
  · show A.depth + 1 < recursionLimit; exact hroom
  · have old : ∀ b o, hp.get? b = some o → h'.get? b = some o := fun b o e => k' b o (Nat.ne_of_lt (Nat.lt_succ_of_lt (Heap.lt_size e))) (k b o e)
    have z : hp.objs.size + 1 + 1 ≤ dx := by first | (simpa only [Heap.size_push] using dn) | exact dn | (have q := dn; rw [Heap.size_push, Heap.size_push] at q; exact q)
    exact ⟨rfl, hq h' tk' (hp.objs.size + 1) dx ⟨old, Nat.le_succ _, ⟨_, hx⟩, Nat.le_trans (Nat.le_trans (Nat.le_succ _) (Nat.le_succ _)) z, dne, hns⟩⟩
end
end Mk0
end PySem

namespace Ox
open PySem PySem.Spec PyProof.Rows L2
theorem relO_one {f g : Str} {v : V} {v' : Value} (r : RelV v v') : RelO (List.lookup g [(f, v)]) (if g = f then some v' else none) := by
  by_cases hw : g = f
  · subst hw; rw [if_pos rfl, show List.lookup g [(g, v)] = some v by simp [List.lookup]]; exact r
  · rw [if_neg hw, show List.lookup g [(f, v)] = none by simp [List.lookup, show (g == f) = false by simpa using hw]]; trivial
section
variable {X : Cx} {C fI : Addr} {f qual : Str} {B newId : String} {bm : List Value}
/-- C(e), C an exception class of one's own with a field f, made to be raised -/
def tOi (C : Addr) (f : Str) (ta : TA) : L2.St → Hp → XK → Prop := fun σ H Q => ta σ H fun vs H1 => ∃ v, vs = [v] ∧ ∀ d, H1 d = none → Q (.ref C) (some d) (upd H1 d (.xd [(f, v)]))
theorem pmk_oi {a : Expr} {ta : TA} {p pos : Pos} {k : Nat} {x : Str} (T : PySem.Mk0.OTxt X.K C fI f qual B newId bm) (gC : X.mg x = some (.ref C)) (hr : Room k X.A) (ha : PA X [a] ta) (hg : Gl X x := by rfl) (hdb : (x == ("__debug__" : Str)) = false := by decide)
    (he : starEach (a :: []) X.env = (false, eval a X.env) :: starEach [] X.env := by rfl) (hpl : (backTo pos (starEach [] X.env)).any (·.1) = false := by rfl) : L2N.PMk X (.Call (.Name x p) [a] [] pos) (tOi C f ta) := by
  intro pins s σ H Q I h; refine wpAny_Call_Name_kw (ld_glob I hg gC ?_ hdb)
  refine PySem.W.callWith_K (h₀ := X.base) I.ok.mod.kin T.kC (thn (ha.run pos pins s σ H _ I h) fun us s1 ⟨vs, H1, I1, r1, v, ev, q1⟩ => ?_) he hpl
  subst ev; refine ⟨I1.kIn, ?_⟩; obtain ⟨v', e', rv⟩ := vals1 r1; subst e'
  · show wpAny _ _ (call (.ref C) [v']) _ _ _; have hlim := I1.nolimit; obtain ⟨hp, g, dr, tk, os⟩ := s1
    refine wpAny_call (PySem.Mk0.o_made T I1.kIn hlim (by have := hr.dp; omega) fun h' tk' e d M => ?_)
    show L2N.MkP X pins σ Q (.ref e) ⟨h', g, dr, tk', os⟩
    obtain ⟨t1, hoe⟩ := M.obj; have hns := M.ns; obtain ⟨G', g1, g2⟩ := restrict h' fun b => decide (b ≠ e)
    have gk : ∀ b, b ≠ e → G'.get? b = h'.get? b := fun b hb => g1 b (decide_eq_true hb); have ge : G'.get? e = none := g2 e (by simp)
    have old : ∀ b o, hp.get? b = some o → G'.get? b = some o := fun b o q => (gk b (Nat.ne_of_lt (Nat.lt_of_lt_of_le (Heap.lt_size q) M.new))).trans (M.keep b o q)
    have ob : ObjOk X.prog X.w (upd H1 d (.xd [(f, v)])) G' d (.xd [(f, v)]) := ⟨_, hns.at (fun o q => (gk d M.ne).trans q), fun g => relO_one rv⟩
    have J : Inv X pins σ (upd H1 d (.xd [(f, v)])) ⟨G', g, dr, tk', os⟩ := I1.laid (t' := tk') old M.big ob
    refine ⟨e, _, _, ⟨G', g, dr, tk', os⟩, _, .ref C, some d, rfl, J, fun b o q => ?_, ge, hoe, ⟨rfl, rfl, fun vs z => by cases z; rfl⟩, rfl, rfl, ?_, rfl, I1.bare, raises_own T.exC T.tyC, q1 d (I1.hok.fresh M.big)⟩
    · by_cases hb : b = e
      · have q' : G'.get? b = some o := q
        rw [hb, ge] at q'; cases q'
      · exact (gk b hb).symm.trans q
    · rw [upd_ne (Ne.symm M.ne)]; exact I1.hok.fresh M.new
/-- C(e) as a value -/
def tOv (C : Addr) (f : Str) (ta : TA) : TE := fun σ H Q => ta σ H fun vs H1 => ∃ v, vs = [v] ∧ ∀ e d, H1 e = none → H1 d = none → d ≠ e → Q (.ref e) (upd (upd H1 d (.xd [(f, v)])) e (exo e C (some d)))
theorem pe_ov {a : Expr} {ta : TA} {p pos : Pos} {k : Nat} {x : Str} (T : PySem.Mk0.OTxt X.K C fI f qual B newId bm) (gC : X.mg x = some (.ref C)) (hr : Room k X.A) (ha : PA X [a] ta) (hg : Gl X x := by rfl) (hdb : (x == ("__debug__" : Str)) = false := by decide)
    (he : starEach (a :: []) X.env = (false, eval a X.env) :: starEach [] X.env := by rfl) (hpl : (backTo pos (starEach [] X.env)).any (·.1) = false := by rfl) : PE X (.Call (.Name x p) [a] [] pos) (tOv C f ta) := by
  refine ⟨fun pins s σ H Q I h => ?_⟩; refine wpAny_Call_Name_kw (ld_glob I hg gC ?_ hdb)
  refine PySem.W.callWith_K (h₀ := X.base) I.ok.mod.kin T.kC (thn (ha.run pos pins s σ H _ I h) fun us s1 ⟨vs, H1, I1, r1, v, ev, q1⟩ => ?_) he hpl
  subst ev; refine ⟨I1.kIn, ?_⟩; obtain ⟨v', e', rv⟩ := vals1 r1; subst e'
  · show wpAny _ _ (call (.ref C) [v']) _ _ _; have hlim := I1.nolimit; obtain ⟨hp, g, dr, tk, os⟩ := s1
    refine wpAny_call (PySem.Mk0.o_made T I1.kIn hlim (by have := hr.dp; omega) fun h' tk' e d M => ?_)
    show EP X pins σ Q (.ref e) ⟨h', g, dr, tk', os⟩
    obtain ⟨t1, hoe⟩ := M.obj; have hns := M.ns; have he1 : H1 e = none := I1.hok.fresh M.new; have hd1 : H1 d = none := I1.hok.fresh M.big
    have ob : ObjOk X.prog X.w (upd H1 d (.xd [(f, v)])) h' d (.xd [(f, v)]) := ⟨_, hns, fun g => relO_one rv⟩
    have J0 : Inv X pins σ (upd H1 d (.xd [(f, v)])) ⟨h', g, dr, tk', os⟩ := I1.laid (t' := tk') M.keep M.big ob
    have he2 : upd H1 d (.xd [(f, v)]) e = none := by (rw [upd_ne (Ne.symm M.ne)]; exact he1)
    -- e itself: a new object beside d
    have nod : ∀ {b : Addr} {o : Obj}, hp.get? b = some o → b ≠ e ∧ b ≠ d := fun q => ⟨Nat.ne_of_lt (Nat.lt_of_lt_of_le (Heap.lt_size q) M.new), Nat.ne_of_lt (Nat.lt_of_lt_of_le (Heap.lt_size q) M.big)⟩
    have U : Un X.fs [] H1 (upd (upd H1 d (.xd [(f, v)])) e (exo e C (some d))) hp h' := ⟨fun b o q n _ _ => M.keep b o q, fun b o q n _ _ => ⟨o.slots, M.keep b o q⟩, fun b o q n _ => by (rw [upd_ne (nod q).1, upd_ne (nod q).2]; exact n), fun b o q _ => ⟨o, M.keep b o q⟩,
      fun b xs q => by (rw [upd_ne (ne_of_none q he1), upd_ne (ne_of_none q hd1)]; exact q), fun b o u q => by (rw [upd_ne (ne_of_none q he1), upd_ne (ne_of_none q hd1)]; exact q), fun b ps q => ⟨#[], by (rw [upd_ne (ne_of_none q he1), upd_ne (ne_of_none q hd1), q]; simp)⟩⟩
    have ok2 : HOk X.prog X.w (upd (upd H1 d (.xd [(f, v)])) e (exo e C (some d))) h' := fun b o q => by
      by_cases hb : b = e
      · subst hb; rw [upd_same] at q; cases q; exact exo_ok hoe
      · rw [upd_ne hb] at q
        exact (J0.hok b o q).stay (fun c u hc z => z) (fun c hc => by (rw [upd_ne (ne_of_none hc he2)]; exact hc)) fun c xs hc => by (rw [upd_ne (ne_of_none hc he2)]; exact hc)
    exact ⟨.ref e, _, I1.un (t' := tk') U ok2, rfl, q1 e d he1 hd1 M.ne⟩
/-- e.f of an exception that is held as a value -/
def tXv (C : Addr) (f : Str) (te : TE) : TE := fun σ H Q => te σ H fun x H1 => ∃ (a d : Addr) (v : V), x = .ref a ∧ H1 a = some (exo a C (some d)) ∧ H1 d = some (.xd [(f, v)]) ∧ Q v H1
theorem pe_xv {e : Expr} {te : TE} {pos : Pos} (T : PySem.Mk0.OTxt X.K C fI f qual B newId bm) (he : PE X e te) (hb : attributeBase e f X.env (eval e X.env) = eval e X.env := by rfl) : PE X (.Attribute e f pos) (tXv C f te) := by
  refine ⟨fun pins s σ H Q I h => ?_⟩; refine attr_of hb (thn (he.run pins s σ H _ I h) fun u s1 ⟨x, H1, I1, rx, a, d, v, ex, ea, ed, q⟩ => ?_)
  subst ex; obtain rfl : u = Value.ref a := rx; obtain ⟨t1, ha⟩ := exo_at I1.hok ea
  have hx : ObjOk X.prog X.w H1 s1.heap d (.xd [(f, v)]) := I1.hok d _ ed; obtain ⟨mA, hns, hr⟩ := hx; obtain ⟨od, ho, hl⟩ := lookIn_ns hns
  obtain ⟨u, hu, ru⟩ := RelO.some_of (v := v) (o := mA f) (by have z := hr f; rw [show List.lookup f [(f, v)] = some v by simp [List.lookup]] at z; exact z)
  have J : PySem.W.InstAt s1.heap a _ C (some od) := ⟨ha, rfl, rfl, ho⟩
  exact HandSPX.exc_get I1.kIn J T.ga T.gg T.exC (PySem.W.findObj_own T.hdC T.noN rfl (by (rw [hl, hu]))) (handed_of ru) ⟨v, H1, I1.tok _, ru, q⟩
end
end Ox

namespace Ox
open PySem PySem.Spec PyProof.Rows L2
/-- behind an except suite the slot of its name is empty -/
abbrev gone (i : Nat) (D : Ends) : Ends := { nx := fun σ' H' => D.nx (σ'.set i none) H', rt := D.rt, bk := fun σ' H' => D.bk (σ'.set i none) H', ct := fun σ' H' => D.ct (σ'.set i none) H' }
/-- what several clauses, all with a name in the slot i, wish of an exception -/
def wAll (K : PySem.W.Frag) (i : Nat) (Wout : WX) (D : Ends) : List (Value × (Addr → Value → Option Addr → TS)) → WX
  | [] => Wout
  | (c, ts) :: r => fun cls d σ H => ∃ b, PySem.W.exmOne K cls c = some b ∧ (b = true → ∀ a, H a = none → ts a cls d (gone i D) (σ.set i (some (.ref a))) H) ∧ (b = false → wAll K i Wout D r cls d σ H)
inductive Clauses (X : Cx) (n : Str) : List ExceptHandler → List (Value × (Addr → Value → Option Addr → TS)) → Prop
  | nil : Clauses X n [] []
  | cons {x : Str} {c : Value} {ts : Addr → Value → Option Addr → TS} {b₀ : Stmt} {su : List Stmt} {np pos' : Pos} {hds : List ExceptHandler} {l : List (Value × (Addr → Value → Option Addr → TS))} (hc : Names X x c)
      (hsu : ∀ (a : Addr) (oe : Obj) (cls : Value) (d : Option Addr) (pn : List (Addr × Obj)), L2N.Zn cls d oe → (∃ vs, oe.data = .fields vs) → PSs (X.suite a ((a, oe) :: pn)) (b₀ :: su) (ts a cls d)) (r : Clauses X n hds l) : Clauses X n (.ExceptHandler (some (.Name x np)) (some n) (b₀ :: su) pos' :: hds) ((c, ts) :: l)
section
variable {X : Cx} {n : Str} {i : Nat} {body : List Stmt} {h₀ : ExceptHandler} {hds : List ExceptHandler} {l : List (Value × (Addr → Value → Option Addr → TS))} {pos : Pos} {tb : WX → TS} {Wout : WX}
theorem ps_try_all (hs : X.stack = X.env :: X.outer) (hf : X.env.frame = some X.env.locals) (hN : X.N.Nodup) (hi : X.N[i]? = some n) (hln : X.env.kindOf n = some .local) (tk : L2N.Takes X Wout)
    (hb : ∀ (W : WX) (pn : List (Addr × Obj)) (xe : Value → Shared → Prop), L2N.Takes (X.tr pn xe) W → PassesOwn (model X.prog X.w) X.A X.env xe → PSs (X.tr pn xe) body (tb W))
    (hh : Clauses X n (h₀ :: hds) l) : PS X (.Try body (h₀ :: hds) [] [] pos) (fun D σ H => tb (wAll X.K i Wout D l) D σ H) := by
  refine ⟨fun pins s σ H D I h => ?_⟩; have ok := I.ok; have hfr : X.A.frames = some (X.env :: X.outer) := by (rw [ok.frames, hs])
  have hloc : Loc X.env.scope n := .inl hln; refine wpAny_Try_except ?_
  refine wpAny_mono ((hb (wAll X.K i Wout D l) (X.pn ++ pins) (fun e s₁ => wpAny (model X.prog X.w) X.A (noteFrame e X.env) (fun _ s₂ => wpAny (model X.prog X.w) X.A (setFlight e none) (fun _ s₃ => wpAny (model X.prog X.w) X.A (handleBy e X.env (h₀ :: hds)) (SP X pins D) X.xe s₃) X.xe s₂) X.xe s₁)
    (fun u s' xx => ?_) PassesOwn.looking).run [] s σ H D (I.toTry _) h) (fun fl s1 hsp => ?_) (fun e s1 he => he)
  · obtain ⟨a, B, sI, pins', σ', H', cls, d, rfl, J', nb, up, sky, na, os, ag, w⟩ := xx; have J : Inv X pins σ' H' sI := J'.ofTry ok
    have sky' : Sky B (X.env :: X.outer) a (L2N.Zn cls d) X.env.locals s'.heap := by (rw [← hs]; exact sky)
    show wpAny (model X.prog X.w) X.A (noteFrame (.ref a) X.env) _ _ _; refine L2N.Sky.land L2N.Zn.steady hfr hf sky' fun h3 fl3 up3 => ?_
    have J3 : Inv X pins σ' H' { s' with heap := h3 } := J.landed nb fl3.1 (up.trans up3) os ag; obtain ⟨oe3, vs3, he3, hz3, hd3⟩ := fl3.there
    have nfr : a ∉ frs (X.env :: X.outer) := fun hm => by
      obtain ⟨_, o', e', hnf⟩ := fl3.2.2.1.mem hm
      rw [he3] at e'; cases e'; exact hnf _ hd3
    have nL : a ≠ X.env.locals := fun z => nfr (List.mem_filterMap.mpr ⟨X.env, List.mem_cons_self, by (rw [hf, z])⟩)
    have nF : a ∉ X.fs := fun hm => by
      obtain ⟨e, he, q⟩ := List.mem_filterMap.mp hm
      exact nfr (List.mem_filterMap.mpr ⟨e, List.mem_cons_of_mem _ he, q⟩)
    have S3 := J3.suite he3 hd3 na nL nF
    have LT : PySem.W.Looks (model X.prog X.w) h3 (typeOf (.ref a)) cls := fun A Q E s k q => wpAny_typeOf_ref (k _ _ he3) (by (rw [hz3.1]; exact q))
    have go : ∀ {hds' : List ExceptHandler} {l' : List (Value × (Addr → Value → Option Addr → TS))}, Clauses X n hds' l' → wAll X.K i Wout D l' cls d σ' H' → wpAny (model X.prog X.w) X.A (handleBy (.ref a) X.env hds') (SP X pins D) X.xe { s' with heap := h3 } := by
      intro hds' l' hk
      induction hk with
      | nil =>
        intro w; refine wpAny_handleBy_nil ?_; obtain ⟨k1, k2, k3, oe, vs, T, oT, ts', he, hz, hd, h1, hr⟩ := id fl3; unfold PySem.passOn
        refine wpAny_bind (wpAny_field he hd h1 ?_); rw [if_neg (show ¬ ((Value.ref T == Value.none) = true) from by simp)]
        have fin : wpAny (model X.prog X.w) X.A (setFlight (.ref a) X.env.frame) (fun _ s4 => wpAny (model X.prog X.w) X.A (throw (.ref a) : Sem Flow) (SP X pins D) X.xe s4) X.xe { s' with heap := h3 } := by
          rw [hf]; refine PySem.HandSPX.setFlight_upZ fl3 fun h4 hh4 up4 => wpAny_throw (tk _ _ ?_)
          exact ⟨a, B, sI, pins, σ', H', cls, d, rfl, J, nb, (up.trans up3).trans up4, .inr (.inr (by (rw [hs]; exact hh4))), na, os, ag, w⟩
        first | exact wpAny_bind (wpAny_pure (wpAny_bind fin)) | exact wpAny_bind fin
      | @cons x c ts b₀ su np pos' hds2 l2 hc hsu r ih =>
        intro w; obtain ⟨b, hb1, hyes, hno⟩ := w; refine wpAny_handleBy_cons (codeAny_handlers_test ?_) (by intro q; cases q)
        have LM := PySem.W.exm_one (M := model X.prog X.w) (J3.kIn) LT hb1
        have test : ∀ {Q : Value → Shared → Prop} {E : Value → Shared → Prop}, Q c { s' with heap := h3 } → wpAny (model X.prog X.w) (X.A.mark (some (.ref a))) (eval (.Name x np) X.env) Q E { s' with heap := h3 } := fun {Q E} q => by
          obtain ⟨hg, hdbg, hm | ⟨hm, hv, hnn⟩⟩ := hc
          · exact ld_glob (X := X.suite a ((a, oe3) :: (X.pn ++ pins))) S3 hg hm q hdbg
          · exact ld_blt (X := X.suite a ((a, oe3) :: (X.pn ++ pins))) S3 hg hm hv q hnn hdbg
        refine test (LM.here ?_)
        cases b with
        | false => show wpAny _ X.A (handleBy (.ref a) X.env hds2) _ _ _; exact ih (hno rfl)
        | true =>
          refine codeAny_handlers_suite_as ?_; refine PySem.HandSPX.lands_againZ fl3 fun h4 fl4 up4 => ?_
          have J4 : Inv X pins σ' H' { s' with heap := h4 } := J.landed nb fl4.1 ((up.trans up3).trans up4) os ag; obtain ⟨oe4, vs4, he4, hz4, hd4⟩ := fl4.there
          have S4 := J4.suite he4 hd4 na nL nF; refine store_ok (X := X.suite a ((a, oe4) :: (X.pn ++ pins))) (v := .ref a) S4 hN hi hloc rfl (fun s5 S5 => ?_) (.inr hln)
          refine wpAny_mono ((hsu a oe4 cls d (X.pn ++ pins) hz4 ⟨_, hd4⟩).run [] s5 _ H' _ S5 (hyes rfl a na)) (fun fl s6 hsp => ?_) (fun _ _ z => False.elim z)
          have end_ : ∀ {σ6 : L2.St} {H6 : Hp} {Q : Shared → Prop}, Inv (X.suite a ((a, oe4) :: (X.pn ++ pins))) [] σ6 H6 s6 → (∀ s7, Inv X pins (σ6.set i none) H6 s7 → Q s7) →
              wpAny (model X.prog X.w) X.A (do bindName X.env n .none; unbindBehindTheSuite X.env n pos') (fun _ s7 => Q s7) X.xe s6 := fun {σ6 H6 Q} S6 hq => gone_ok (S6.unsuite ok) hN hi hln hq
          cases fl with
          | next => obtain ⟨σ6, H6, S6, q6⟩ := hsp; exact end_ S6 fun s7 J7 => ⟨_, _, J7, q6⟩
          | brk => obtain ⟨σ6, H6, S6, q6⟩ := hsp; exact end_ S6 fun s7 J7 => ⟨_, _, J7, q6⟩
          | cont => obtain ⟨σ6, H6, S6, q6⟩ := hsp; exact end_ S6 fun s7 J7 => ⟨_, _, J7, q6⟩
          | ret u => obtain ⟨v6, σ6, H6, S6, r6, q6⟩ := hsp; exact end_ S6 fun s7 J7 => ⟨_, _, _, J7, r6, q6⟩
    exact go hh w
  · cases fl with
    | next => obtain ⟨σ', H', J', q⟩ := hsp; exact wpAny_execs_nil ⟨σ', H', J'.ofTry ok, q⟩
    | brk => obtain ⟨σ', H', J', q⟩ := hsp; exact ⟨σ', H', J'.ofTry ok, q⟩
    | cont => obtain ⟨σ', H', J', q⟩ := hsp; exact ⟨σ', H', J'.ofTry ok, q⟩
    | ret u => obtain ⟨v, σ', H', J', r, q⟩ := hsp; exact ⟨v, σ', H', J'.ofTry ok, r, q⟩
end
end Ox

namespace Ox
open PySem PySem.Spec PyProof.Rows L2
/-- isinstance(a, c), a an exception that is pinned, of the class at D, with the dict d -/
def rIsP (K : PySem.W.Frag) (D a : Addr) (d : Option Addr) : List V → Hp → VK → Prop := fun xs H Q => ∃ (c : V) (cv : Value) (b : Bool), xs = [.ref a, c] ∧ (∀ u, RelV c u → u = cv) ∧ PySem.W.kitOne K (.ref D) cv = some b ∧ (∀ dd, d = some dd → ∃ fs, H dd = some (.xd fs)) ∧ Q (.bl b) H
theorem call_isP {X : Cx} {a D : Addr} {oe : Obj} {d : Option Addr} (C : ExcC X.K D) (hp : (a, oe) ∈ X.pn) (hz : Zc (.ref D) d oe) (hf : ∃ vs, oe.data = .fields vs) : CallR X (.builtin "isinstance") (rIsP X.K D a d) := by
  intro pins s σ H xs us Q I r h; obtain ⟨c, cv, b, rfl, hcv, e, hd, q⟩ := h; obtain ⟨u1, u2, rfl, r1, r2⟩ := vals2 r
  cases (show u1 = Value.ref a from r1); have ec := hcv _ r2; subst ec; obtain ⟨hget, _⟩ := I.pin (a, oe) (List.mem_append.mpr (.inl hp)); obtain ⟨vs, hv⟩ := hf
  have hcl : (PySem.W.clsIn X.K D).isSome = true := by
    obtain ⟨cd, hc, _⟩ := PySem.W.any_some C.hd
    rw [hc]; rfl
  obtain ⟨od, J⟩ : ∃ od, PySem.W.InstAt s.heap a oe D od := by
    cases d with
    | none => exact ⟨none, hget, hz.1, by (unfold PySem.W.notCls; rw [hv] <;> rfl), by (rw [hz.2]; trivial)⟩
    | some dd =>
      obtain ⟨fs, e1⟩ := hd dd rfl; have hx : ObjOk X.prog X.w H s.heap dd (.xd fs) := I.hok dd _ e1; obtain ⟨mA, hns, hr⟩ := hx; obtain ⟨od, ho, hl⟩ := lookIn_ns hns
      exact ⟨some od, hget, hz.1, by (unfold PySem.W.notCls; rw [hv] <;> rfl), by (rw [hz.2]; exact ho)⟩
  exact PySem.W.kia_one (PySem.W.kitx_exc hcl C.hg C.hk C.hs C.ha C.hn C.ht C.hm) I.kIn J e (fun z => nomatch z) fun tk => ⟨.bl b, H, I.kept (t' := tk) fun _ _ z => z, rfl, q⟩

/-- .. where the class is told by the question -/
def rIsX (K : PySem.W.Frag) (cls : Value) (a : Addr) (d : Option Addr) : List V → Hp → VK → Prop := fun xs H Q => ∃ D, cls = .ref D ∧ ExcC K D ∧ rIsP K D a d xs H Q
theorem call_isX {X : Cx} {a : Addr} {cls : Value} {oe : Obj} {d : Option Addr} (hp : (a, oe) ∈ X.pn) (hz : Zc cls d oe) (hf : ∃ vs, oe.data = .fields vs) : CallR X (.builtin "isinstance") (rIsX X.K cls a d) := by
  intro pins s σ H xs us Q I r h; obtain ⟨D, rfl, EC, h⟩ := h
  exact call_isP EC hp hz hf pins s σ H xs us Q I r h
/-! ### a def that is handed the exception which the suite holds -/
structure FnP (P : Program) (w : World) (K : PySem.W.Frag) (mg : Str → Option Value) (base : Heap) (CX : CXT) (k : Nat) (f : Addr) (fd : FuncData) (ps : List Str) (sp : Addr → Value → Option Addr → Sp) : Prop where
  len : ∀ a cls d vs H Q E, sp a cls d vs H Q E → vs.length = ps.length
  run : ∀ (p : Addr × Obj) (cls : Value) (d : Option Addr), Zc cls d p.2 → (∃ vs, p.2.data = .fields vs) → ∀ (A : Around) (outer : List Env) (s : Shared) (H : Hp) (args : Args) (us : List Value) (vs : List V) (Q : VK) (E : XK), L2H.RoomH k A → L2H.PinOk outer H s p → Env0 P w K mg base A outer s H → BindsTo s fd args (ps.zip us) → Vals vs us → sp p.1 cls d vs H Q E →
    codeAny (model P w) A (.call (.ref f) args) (CR CX outer P w H s Q E) s
theorem fn_ofP {CX : CXT} {P : Program} {w : World} {K : PySem.W.Frag} {mg : Str → Option Value} {base : Heap} {k : Nat} {f : Addr} {name qual : Str} {params : Arguments} {body : List Stmt} {scope : Scope} {dV kV doc pm cdv ct oc : Value} {an od : Option Addr} {osl : Array (Option Value)} {N ps : List Str} {sp : Addr → Value → Option Addr → Sp}
    (lk : K.lookup f = some ⟨oc, od, .func (PySem.W.fnOf name qual params body scope dV kV doc pm an cdv ct), osl⟩) (hcd : PySem.W.codeIn K cdv qual = true) (S : FnScope N ps scope) (len : ∀ a cls d vs H Q E, sp a cls d vs H Q E → vs.length = ps.length)
    (hbody : ∀ (p : Addr × Obj) (cls : Value) (d : Option Addr), Zc cls d p.2 → (∃ vs, p.2.data = .fields vs) → ∀ (A : Around) (outer : List Env) (s : Shared) (H : Hp) (vs : List V) (Q : VK) (E : XK), L2H.RoomH k (A.deeper (envOfC qual scope s.heap.objs.size f cdv)) → sp p.1 cls d vs H Q E →
      ∃ t, PSs (L2H.cxH CX P w K mg base N qual scope f cdv A outer s H E p) body t ∧ t { nx := fun _ H' => Q .non H', rt := Q } (L2.start N vs) H) : FnP P w K mg base CX (k + 1) f (PySem.W.fnOf name qual params body scope dV kV doc pm an cdv ct) ps sp := by
  refine ⟨len, fun p cls d hz hf A outer s H args us vs Q E hr hpin e0 hb r hsp => ?_⟩; have hl := len _ _ _ _ _ _ _ hsp
  have KX : K.In s.heap := e0.mod.kin.keeps fun b o e => (e0.bs b o e).1; have lim : s.heap.NoLimit := e0.mod.nolimit.keeps fun b o e => (e0.bs b o e).1
  have hkind : ∀ y ∈ ps.zip us, scope.names.lookup y.1 = some .local ∨ (scope.names.lookup y.1 = some .cell ∧ ((cellsFrom (s.heap.objs.size + 1) scope.names []).lookup y.1).isSome = true) := fun ⟨n, v⟩ hy => (S.par n (List.of_mem_zip hy).1).elim .inl fun q => .inr ⟨q, PySem.W.cellsFrom_some _ _ _ (.inl q)⟩
  refine codeAny_call_function hr.depth (KX _ _ lk) rfl S.co S.gen rfl (PySem.W.codeRec_of KX hcd) (hb _ _ _ _ ?_); refine wpAny_newFunctionEnv_cells S.kind hkind fun env he s1 x => ?_
  subst he; refine ⟨lim.keeps x.toInCall.keep, codeAny_func ?_⟩; obtain ⟨t, ht, hq⟩ := hbody p cls d hz hf A outer s H vs Q E (hr.deeper _) hsp
  have I : Inv (L2H.cxH CX P w K mg base N qual scope f cdv A outer s H E p) [] (L2.start N vs) H s1 := L2H.inv_startH S hpin e0 hl r x
  refine wpAny_mono (ht.run [] s1 (L2.start N vs) H _ I hq) (fun fl s' hs => ?_) fun e s' hs => hs
  have fin : ∀ {σ' : L2.St} {H' : Hp} {v : V} {u : Value}, Inv (L2H.cxH CX P w K mg base N qual scope f cdv A outer s H E p) [] σ' H' s' → RelV v u → Q v H' → CE outer P w H s Q u s' := fun {σ' H' v u} J rv q => ⟨v, H', J.os, J.bare, J.base, J.hok, rv, q⟩
  cases fl with
  | ret u => obtain ⟨v, σ', H', J, rv, q⟩ := hs; exact fin J rv q
  | next => obtain ⟨σ', H', J, q⟩ := hs; exact fin (v := V.non) (u := Value.none) J rfl q
  | brk => obtain ⟨_, _, _, q⟩ := hs; exact False.elim q
  | cont => obtain ⟨_, _, _, q⟩ := hs; exact False.elim q
theorem _root_.L2.Fun.okP {P : Program} {w : World} {K : PySem.W.Frag} {mg : Str → Option Value} {base : Heap} {x qual : Str} {st : Stmt} {f : Addr} {fd : FuncData} {N ps : List Str} {k : Nat} {sp : Addr → Value → Option Addr → Sp} (F : Fun K x qual st f fd) (S : FnScope N ps (defScope st)) (len : ∀ a cls d vs H Q E, sp a cls d vs H Q E → vs.length = ps.length)
    (hbody : ∀ (cdv : Value) (p : Addr × Obj) (cls : Value) (d : Option Addr), Zc cls d p.2 → (∃ vs, p.2.data = .fields vs) → ∀ (A : Around) (outer : List Env) (s : Shared) (H : Hp) (vs : List V) (Q : VK) (E : XK), L2H.RoomH k (A.deeper (envOfC qual (defScope st) s.heap.objs.size f cdv)) → sp p.1 cls d vs H Q E →
      ∃ t, PSs (L2H.cxH CX0 P w K mg base N qual (defScope st) f cdv A outer s H E p) (defBody st) t ∧ t { nx := fun _ H' => Q .non H', rt := Q } (L2.start N vs) H) : FnP P w K mg base CX0 (k + 1) f fd ps sp := by
  obtain ⟨oc, od, kV, doc, pm, an, cdv, ct, osl, rfl, lk, hcd⟩ := F.ex
  exact fn_ofP lk hcd S len fun p cls d hz hf A outer s H vs Q E hr h => hbody cdv p cls d hz hf A outer s H vs Q E hr h
section
variable {X : Cx} {k : Nat} {f : Addr} {fd : FuncData} {ps : List Str} {sp : Addr → Value → Option Addr → Sp} {x : Str} {p q pos : Pos} {e : Expr} {es : List Expr} {t : TA}
def tCallP (sp : Addr → Value → Option Addr → Sp) (a : Addr) (cls : Value) (d : Option Addr) (t : TA) : TE := fun σ H Q => t σ H fun vs H1 => sp a cls d vs H1 Q E0
theorem pe_callP {pn : Addr × Obj} {cls : Value} {d : Option Addr} (hz : Zc cls d pn.2) (hf : ∃ vs, pn.2.data = .fields vs) (F : FnP X.prog X.w X.K X.mg X.base CX0 k f fd ps sp) (hr : L2H.RoomH k X.A) (hp : pn ∈ X.pn) (hg : Gl X x) (hm : X.mg x = some (.ref f)) (hk : PySem.W.keepIn X.K (.ref f) = true) (hb : Binds X.K fd ps [])
    (ha : PA X (e :: es) t) (hdb : (x == ("__debug__" : Str)) = false := by decide) (he : starEach (e :: es) X.env = (false, eval e X.env) :: starEach es X.env := by rfl) (hpl : (backTo pos (starEach es X.env)).any (·.1) = false := by rfl) : PE X (.Call (.Name x q) (e :: es) [] pos) (tCallP sp pn.1 cls d t) := by
  refine ⟨fun pins s σ H Q I h => ?_⟩; refine wpAny_Call_Name_kw (ld_glob I hg hm ?_ hdb)
  refine PySem.W.callWith_K (h₀ := X.base) I.ok.mod.kin hk (thn (ha.run pos pins s σ H _ I h) fun us s1 ⟨vs, H1, I1, r, h1⟩ => ⟨I1.kIn, ?_⟩) he hpl
  have hl : us.length = ps.length := by (rw [← r.length]; exact F.len _ _ _ _ _ _ _ h1)
  have b := hb s1 us I1.kIn (by (rw [List.append_nil]; exact hl)); rw [List.append_nil] at b
  have P1 := I1.pin pn (List.mem_append_left _ hp); have hpin : L2H.PinOk X.stack H1 s1 pn := ⟨P1.1, P1.2.1, fun hm => (List.mem_cons.mp (I1.stkSub pn.1 hm)).elim P1.2.2.1 P1.2.2.2.1, P1.2.2.2.2⟩
  refine wpAny_call (codeAny_mono (F.run pn cls d hz hf X.A X.stack s1 H1 ⟨us, []⟩ us vs Q E0 hr hpin I1.env0 b r h1) fun r s' hq => ?_)
  cases r with
  | error e => exact False.elim hq
  | ok fl =>
    cases fl with
    | ret u => exact I1.after hq
    | next => exact False.elim hq
    | brk => exact False.elim hq
    | cont => exact False.elim hq
end
end Ox

namespace Ox
open PySem PySem.Spec PyProof.Rows L2 L2H
/-- a comprehension's block within an except suite: the pins stay -/
abbrev blkP (X : Cx) (s : Shared) (H : Hp) (scope : Scope) (cenv : Env) (fp : List Addr) : Cx := { X.blk s H scope cenv fp with pn := X.pn }
theorem okP {X : Cx} {s : Shared} {H : Hp} {scope : Scope} {cenv : Env} {fp : List Addr} (ok : (X.blk s H scope cenv fp).Ok) : (blkP X s H scope cenv fp).Ok :=
  ⟨ok.mod, ok.kind, ok.glob, ok.blt, ok.above, ok.inj, ok.has, ok.cab, ok.hd, ok.frames, ok.stk, ok.exf, ok.bs, ok.bsz, ok.noex, ok.exfs, ok.funs, ok.frf⟩
theorem blkP_start {X : Cx} {pins : List (Addr × Obj)} {σ σ' : L2.St} {H H0 H' : Hp} {s s' sb : Shared} {scope : Scope} {cenv : Env} {fp : List Addr} (I : Inv X pins σ H s) (hk : ∀ b o, s.heap.get? b = some o → H b = none → s'.heap.get? b = some o ∧ H' b = none) (hL : cenv.locals = s.heap.objs.size)
    (J : Inv (X.blk sb H0 scope cenv fp) [] σ' H' s') : Inv (blkP X sb H0 scope cenv fp) [] σ' H' s' := by
  refine ⟨okP J.ok, J.os, J.bare, J.base, J.loc, J.cell, J.free, J.freeC, fun p hp => ?_, J.hok, J.len⟩
  have hp' : p ∈ X.pn := by simpa using hp
  obtain ⟨e, n, ne, nf, d⟩ := I.pin p (List.mem_append_left _ hp'); obtain ⟨e2, n2⟩ := hk _ _ e n
  refine ⟨e2, n2, fun z => ?_, fun hm => (List.mem_cons.mp (I.stkSub p.1 hm)).elim ne nf, d⟩
  have z' : p.1 = cenv.locals := z; rw [hL] at z'; exact absurd (Heap.lt_size e) (by (rw [z']; exact Nat.lt_irrefl _))
section
variable {X : Cx}
theorem lc_hot {pins : List (Addr × Obj)} {s : Shared} {σ : L2.St} {H : Hp} {Q : VK} {elt tg iter : Expr} {ifs : List Expr} {scope : Scope} {own : List (Str × Nat)} {pos pos' : Pos} {wi : TI} {g : TG} {tt : TT} {te : TE} {use : Option (Value → Sem Unit)} {Qf : Value → Shared → Prop}
    (hc : HotC X) (hN : X.N.Nodup) (I : Inv X pins σ H s) (hi : PIH X tg iter wi) (ok : BlkOk X.N X.env.scope scope own)
    (hg : ∀ (s : Shared) (H : Hp) (C : Addr) (cl : List (Str × Addr)) (fp : List Addr), PG (blkP X s H scope (compEnvC scope cl C X.env) fp) tg g) (ht : ∀ (s : Shared) (H : Hp) (C : Addr) (cl : List (Str × Addr)) (fp : List Addr), PTs (blkP X s H scope (compEnvC scope cl C X.env) fp) ifs tt)
    (he : ∀ (s : Shared) (H : Hp) (C : Addr) (cl : List (Str × Addr)) (fp : List Addr), PE (blkP X s H scope (compEnvC scope cl C X.env) fp) elt te) (hs : ∀ x, foldedSetIterable iter X.env x = pure x) (h : tLc wi g tt te (own.map (·.2)) σ H Q)
    (hRR : ∀ D C s' m H', Inv X pins σ H' s' → Q (.ref D) H' → s'.heap.Ns C m → FpOk X pins H' C → compPost (model X.prog X.w) X.A X.xe use Qf (.ref D) C (.ok .next) s') :
    wpAny (model X.prog X.w) X.A (comprehension (.ListComp elt [⟨tg, iter, ifs, 0⟩] scope pos) scope X.env pos' (newList []) false (eval iter X.env) use) Qf X.xe s := by
  have hfree : ∀ y ∈ scope.names, y.2 = .free → ∃ c, X.env.cells.lookup y.1 = some c := fun y hy e => (ok.free y hy e).elim (fun k => I.ok.has _ (.inl k)) fun k => I.ok.has _ (.inr k)
  refine wpAny_comprehension_free (use := use) rfl hs (closure_ok hfree) ok.kind (fun y hy e => by (rw [ok.uniq y hy, e])) (thn (hi.run pins s σ H _ I h) fun xv s1 hx => thn hx fun itv s2 h2 => ?_)
  obtain ⟨it, fp, tn, J, H2, e, I2, T, st2, f2, q⟩ := h2; subst e; refine wpAny_newObj_type (newEnv_comp ?_) (by (show 0 ≤ sizeLine; decide))
  generalize hD : s2.heap.objs.size = D; have hDn : H2 D = none := I2.hok.fresh (Nat.le_of_eq hD); obtain ⟨W, ⟨m0, w0⟩, turn⟩ := q D hDn
  generalize hs3 : ({ s2 with heap := s2.heap.push { cls := .type "list", data := .seq ([] : List Value).toArray } } : Shared) = s3
  have I3 : Inv X pins σ (upd H2 D (.lst [])) s3 := by
    rw [← hs3]; refine I2.laid (t' := s2.toks) (fun b o e => Heap.get?_push_of_some _ e) (Nat.le_of_eq hD) ⟨Nat.zero_le _, [], 0, .nil, ?_⟩
    rw [← hD]; exact Heap.get?_push_size _ rfl
  have h3 : s3.heap = s2.heap.push { cls := .type "list", data := .seq ([] : List Value).toArray } := by (rw [← hs3])
  have sz : ∀ b ∈ fp, b < s2.heap.objs.size := fun b hb => by
    obtain ⟨o, e, _⟩ := T.obj _ _ st2 b hb; exact Heap.lt_size e
  have f3 : ∀ b ∈ fp, FpOk X pins (upd H2 D (.lst [])) b ∧ b < s3.heap.objs.size := fun b hb => by
    have hlt := sz b hb; refine ⟨⟨?_, (f2 b hb).2⟩, by (rw [h3, Heap.size_push]; exact Nat.lt_succ_of_lt hlt)⟩
    rw [upd_ne (by (rw [← hD]; exact Nat.ne_of_lt hlt))]; exact (f2 b hb).1
  have st3 : tn 0 s3.heap := T.keep _ _ _ st2 fun b _ o e => by (rw [h3]; exact Heap.get?_push_of_some _ e)
  have I4 := block_start I3 ok hN f3
  have pg := hg s3 (upd H2 D (.lst [])) s3.heap.objs.size (cellsFrom (s3.heap.objs.size + 1) scope.names (cloFrom X.env.cells scope.names [])) fp
  have pt := ht s3 (upd H2 D (.lst [])) s3.heap.objs.size (cellsFrom (s3.heap.objs.size + 1) scope.names (cloFrom X.env.cells scope.names [])) fp
  have pe := he s3 (upd H2 D (.lst [])) s3.heap.objs.size (cellsFrom (s3.heap.objs.size + 1) scope.names (cloFrom X.env.cells scope.names [])) fp
  show codeAny _ _ (.compStart (.ListComp elt [⟨tg, iter, ifs, 0⟩] scope pos) 0 (.ref it) (.ref D) (compEnvC scope (cellsFrom (s3.heap.objs.size + 1) scope.names (cloFrom X.env.cells scope.names [])) s3.heap.objs.size X.env)) (compPost (model X.prog X.w) X.A X.xe use Qf (.ref D) s3.heap.objs.size) { s3 with heap := pushCells (s3.heap.push { cls := .type "dict", data := .dict #[] }) scope.names }
  have nfp : ∀ b ∈ fp, (upd H2 D (.lst [])) b = none := fun b hb => (f3 b hb).1.1
  generalize hce : compEnvC scope (cellsFrom (s3.heap.objs.size + 1) scope.names (cloFrom X.env.cells scope.names [])) s3.heap.objs.size X.env = ce at I4 pg pt pe ⊢
  have cL : ce.locals = s3.heap.objs.size := by (subst hce; rfl)
  generalize hH3 : upd H2 D (.lst []) = H3 at I3 I4 pg pt pe w0 nfp f3; have keep4 : ∀ b o, s3.heap.get? b = some o → (pushCells (s3.heap.push { cls := .type "dict", data := .dict #[] }) scope.names).get? b = some o := fun b o e => pushCells_keeps _ _ _ _ (Heap.get?_push_of_some _ e)
  generalize hs4 : ({ s3 with heap := pushCells (s3.heap.push { cls := .type "dict", data := .dict #[] }) scope.names } : Shared) = s4 at I4 ⊢
  have I4 : Inv (blkP X s3 H3 scope ce fp) [] (wipe σ (own.map (·.2))) H3 s4 := blkP_start I3 (fun b o e n => ⟨by (rw [← hs4]; exact keep4 b o e), n⟩) cL I4
  have hcB : HotC (blkP X s3 H3 scope ce fp) := hc
  have st4 : tn 0 s4.heap := T.keep _ _ _ st3 fun b _ o e => by (rw [← hs4]; exact keep4 b o e)
  have stat : ∀ {σ' : L2.St} {H' : Hp} {s' : Shared}, Inv (blkP X s3 H3 scope ce fp) [] σ' H' s' → (∀ b ∈ fp, H' b = none) → ∀ b ∈ fp, FpOk (blkP X s3 H3 scope ce fp) [] H' b := fun {σ' H' s'} I' hn b hb =>
    ⟨hn b hb, (I'.ok.exf b hb).1, I'.ok.exfs b hb, .inl hb, fun x c e => (I'.ok.exf b hb).2 x c e, fun p hp => (f3 b hb).1.2.2.2.2.2 p (List.mem_append_left _ (by simpa using hp))⟩
  have loop : codeAny (model X.prog X.w) X.A (.compLoop (.ListComp elt [⟨tg, iter, ifs, 0⟩] scope pos) 0 (.ref it) (.ref D) ce) (compPost (model X.prog X.w) X.A X.xe use Qf (.ref D) s3.heap.objs.size) s4 := by
    refine compLoop_any (fun n s' => ∃ i H', Inv (blkP X s3 H3 scope ce fp) [] (wipe σ (own.map (·.2))) H' s' ∧ tn i s'.heap ∧ (∀ b ∈ fp, H' b = none) ∧ W i n H') ?_ m0 ⟨0, H3, I4, st4, nfp, w0⟩
    rintro n s5 ⟨i, H5, I5, st5, n5, w5⟩
    rcases turn i n H5 w5 with ⟨stop, qq⟩ | ⟨go, Nx, hNx, step⟩
    · have td := T.done (blkP X s3 H3 scope ce fp) rfl rfl rfl hcB i [] s5 _ H5 (fun _ _ => False) I5 (stat I5 n5) st5 stop
      refine thnF td fun r s6 ⟨hr, I6⟩ => ?_
      subst hr; have I7 : Inv X pins σ H5 s6 := I3.call' (ch := fp) I6.os I6.base I6.hok I6.bare fun b hb => ⟨(f3 b hb).1.2.2.2.1, (f3 b hb).1.2.1, (f3 b hb).1.2.2.2.2.1, (f3 b hb).1.2.2.2.2.2⟩
      have nC : H5 s3.heap.objs.size = none := by
        have z : H5 ce.locals = none := I6.free
        rw [cL] at z; exact z
      obtain ⟨m, hn, _⟩ := I6.loc; have hn : s6.heap.Ns ce.locals m := hn; rw [cL] at hn; exact hRR D s3.heap.objs.size s6 m H5 I7 qq hn (I3.fpOk (Nat.le_refl _) nC)
    · have ti := T.item (blkP X s3 H3 scope ce fp) rfl rfl rfl hcB i [] s5 _ H5 (fun _ _ => False) I5 (stat I5 n5) st5 go
      refine thnF ti fun r s6 ⟨u, hr, h6⟩ => ?_
      subst hr; refine thnF h6 fun _ s7 ⟨x, H7, I7, r7, y7, st7, n7⟩ => ?_
      have I7' := I7.pinned (stat I7 n7) (T.obj _ _ st7); refine thnF (pg.run _ s7 _ H7 x u _ I7' r7 (step x H7 y7)) fun _ s8 ⟨σ8, H8, I8, hw8, q8⟩ => ?_
      refine thnF (pt.run _ s8 σ8 H8 _ I8 q8) fun b s9 ⟨H9, I9, q9⟩ => ?_
      have fin : ∀ {s' : Shared} {H' : Hp}, Inv (blkP X s3 H3 scope ce fp) ([] ++ pinsAt fp s7.heap) σ8 H' s' → Nx H' → ∃ m, m < n ∧ ∃ i H', Inv (blkP X s3 H3 scope ce fp) [] (wipe σ (own.map (·.2))) H' s' ∧ tn i s'.heap ∧ (∀ b ∈ fp, H' b = none) ∧ W i m H' := fun {s' H'} I' nx => by
        obtain ⟨m', hm, w'⟩ := hNx H' nx
        have pin' : ∀ b ∈ fp, ∀ o, s7.heap.get? b = some o → s'.heap.get? b = some o ∧ H' b = none := fun b hb o e => let z := I'.pin (b, o) (List.mem_append_right _ (List.mem_append_right _ (mem_pinsAt hb e))); ⟨z.1, z.2.1⟩
        have hl : (wipe σ (own.map (·.2))).length = σ8.length := by (rw [← hw8, wipe_length])
        refine ⟨m', hm, i + 1, H', (I'.unpinned (pins := [])).weak hl (fun j v e => ?_), T.keep _ _ _ st7 fun b hb o e => (pin' b hb o e).1, fun b hb => ?_, w'⟩
        · rw [← hw8] at e; exact (wipe_some e).1
        · obtain ⟨o, e, _⟩ := T.obj _ _ st7 b hb; exact (pin' b hb o e).2
      cases b with
      | false => simp only [Bool.false_eq_true, if_false] at q9 ⊢; exact fin I9 q9
      | true =>
        simp only [if_true] at q9 ⊢; refine thnF (pe.run _ s9 σ8 H9 _ I9 q9) fun z s10 ⟨yv, H10, I10, r10, acc, hD10, hz10, nx⟩ => ?_
        exact app_ok (X := blkP X s3 H3 scope ce fp) I10 hD10 hz10 r10 fun s11 I11 => fin I11 nx
  exact codeAny_compStart_list loop (T.self X.A 0 _ _ _ st4 loop)
theorem ps_setLcH {i : Nat} {y : Str} {py : Pos} {elt tg iter : Expr} {ifs : List Expr} {scope : Scope} {own : List (Str × Nat)} {pos spos : Pos} {wi : TI} {g : TG} {tt : TT} {te : TE} (hc : HotC X) (hN : X.N.Nodup) (hy : X.N[i]? = some y) (hyl : X.env.scope.names.lookup y = some .local)
    (hsw : swapsWith (.ListComp elt [⟨tg, iter, ifs, 0⟩] scope pos) (some (.Name y py)) spos.line X.env = pure true) (hi : PIH X tg iter wi) (ok : BlkOk X.N X.env.scope scope own)
    (hg : ∀ (s : Shared) (H : Hp) (C : Addr) (cl : List (Str × Addr)) (fp : List Addr), PG (blkP X s H scope (compEnvC scope cl C X.env) fp) tg g) (ht : ∀ (s : Shared) (H : Hp) (C : Addr) (cl : List (Str × Addr)) (fp : List Addr), PTs (blkP X s H scope (compEnvC scope cl C X.env) fp) ifs tt)
    (he : ∀ (s : Shared) (H : Hp) (C : Addr) (cl : List (Str × Addr)) (fp : List Addr), PE (blkP X s H scope (compEnvC scope cl C X.env) fp) elt te) (hs : ∀ x, foldedSetIterable iter X.env x = pure x := by intro _; rfl) :
    PS X (.Assign [.Name y py] (.ListComp elt [⟨tg, iter, ifs, 0⟩] scope pos) spos) (tAsg (tLc wi g tt te (own.map (·.2))) (gName i)) := by
  refine ⟨fun pins s σ H D I h => ?_⟩; rw [exec_Assign_Name_used _ _ _ _ hsw]; refine wpAny_bind (wpAny_standAt (wpAny_bind ?_))
  show wpAny _ X.A (do let _ ← comprehension (.ListComp elt [⟨tg, iter, ifs, 0⟩] scope pos) scope X.env (firstIterPos [⟨tg, iter, ifs, 0⟩] pos) (newList []) false (eval iter X.env) (some (assign (.Name y py) X.env))) _ _ s
  have h : tLc wi g tt te (own.map (·.2)) σ H (fun x H1 => gName i x σ H1 D.nx) := h
  refine wpAny_bind (thn (lc_hot (Qf := fun _ s' => SP X pins D .next s') hc hN I hi ok hg ht he hs h fun L C s' m H' I' q hn f => ?_) fun _ s' hq => wpAny_pure (wpAny_pure hq))
  show wpAny _ _ (assign (.Name y py) X.env (.ref L)) _ _ _
  refine wpAny_assign_Name (store_ok2 (v := V.ref L) I' hN hy (.inl hyl) rfl (fun s2 I2 ⟨a, sb, ha⟩ => ?_) (.inr hyl)); obtain ⟨f0, f1, f2, f3, f4, f5⟩ := f
  have haC : C ≠ a := ha.elim (fun z => by (rw [z]; exact f1)) fun z e => f4 y a z e.symm
  exact ⟨m, hn.sameBut sb haC, fun h3 sb3 => ⟨_, H', I2.turned (t' := s2.toks) (fun b o hb e => (sb3.2 b hb).trans e) f0 f1 f3 f4 f5, q⟩⟩
end
end Ox

namespace Ox
open PySem PySem.Spec PyProof.Rows L2
/-! ### data, told of the abstract heap: what is tracked alone -/
mutual
inductive Dq (H : Hp) : V → PyData → Prop
  | non : Dq H .non .none
  | bl (b : Bool) : Dq H (.bl b) (.bool b)
  | int (i : Int) : Dq H (.int i) (.int i)
  | str (x : Str) : Dq H (.str x) (.str x)
  | lst {a : Addr} {xs : List V} {ds : List PyData} : H a = some (.lst xs) → DqAll H xs ds → Dq H (.ref a) (.list ds)
  | tup {a : Addr} {xs : List V} {ds : List PyData} : H a = some (.tup xs) → DqAll H xs ds → Dq H (.ref a) (.tuple ds)
  | dct {a : Addr} {kvs : List (Key × V)} {ds : List PyData} : H a = some (.dK kvs) → DqAll H (kvs.map (·.2)) ds → Dq H (.ref a) (.dict ((kvs.map fun p => match p.1 with | .inl i => PyData.int i | .inr x => PyData.str x).zip ds))
inductive DqAll (H : Hp) : List V → List PyData → Prop
  | nil : DqAll H [] []
  | cons {v : V} {vs : List V} {d : PyData} {ds : List PyData} : Dq H v d → DqAll H vs ds → DqAll H (v :: vs) (d :: ds)
end
theorem DqAll.length {H : Hp} : ∀ {vs : List V} {ds : List PyData}, DqAll H vs ds → vs.length = ds.length
  | _, _, .nil => rfl
  | _, _, .cons _ h => congrArg (· + 1) (DqAll.length h)
mutual
theorem Dq.keeps {H H' : Hp} (k : ∀ b o, H b = some o → H' b = some o) : ∀ {v : V} {d : PyData}, Dq H v d → Dq H' v d
  | _, _, .non => .non
  | _, _, .bl b => .bl b
  | _, _, .int i => .int i
  | _, _, .str x => .str x
  | _, _, .lst h a => .lst (k _ _ h) (DqAll.keeps k a)
  | _, _, .tup h a => .tup (k _ _ h) (DqAll.keeps k a)
  | _, _, .dct h a => .dct (k _ _ h) (DqAll.keeps k a)
theorem DqAll.keeps {H H' : Hp} (k : ∀ b o, H b = some o → H' b = some o) : ∀ {vs : List V} {ds : List PyData}, DqAll H vs ds → DqAll H' vs ds
  | _, _, .nil => .nil
  | _, _, .cons h a => .cons (Dq.keeps k h) (DqAll.keeps k a)
end
theorem dq_bools {H : Hp} : ∀ bs : List Bool, DqAll H (bs.map V.bl) (bs.map PyData.bool)
  | [] => .nil
  | b :: bs => .cons (.bl b) (dq_bools bs)
theorem dq_ints {H : Hp} : ∀ bs : List Int, DqAll H (bs.map V.int) (bs.map PyData.int)
  | [] => .nil
  | b :: bs => .cons (.int b) (dq_ints bs)
section
variable {X : Cx} {pins : List (Addr × Obj)} {σ : L2.St} {H : Hp} {s : Shared}
theorem reads_keys {P : Program} {w : World} {h : Heap} : ∀ {kvs : List (Key × V)} {vs : List (Key × Value)} {es : List DictEntry}, KV kvs vs → PySem.Pairs (mixKind P w) es vs →
    ReadsAll h (es.map (·.key)) (kvs.map fun p => match p.1 with | .inl i => PyData.int i | .inr x => PyData.str x) [] ∧ Vals (kvs.map (·.2)) (es.map (·.val))
  | _, _, _, .nil, .nil => ⟨.nil, .nil⟩
  | _, _, _, .cons (a := ⟨k, v⟩) r t, .cons (e := e) hk hv q => by
    obtain ⟨h1, h2⟩ := reads_keys (h := h) t q; obtain ⟨r1, r2⟩ := r; refine ⟨?_, .cons (by (show RelV v e.val; rw [hv]; exact r2)) h2⟩
    rw [mixKind_is] at hk; rw [← r1] at hk
    rcases keyIs_shape hk with ⟨i, t, e1, e2⟩ | ⟨x, t, e1, e2⟩
    · simp only at e1; subst e1; exact .cons (as := []) (bs := []) (by (show Reads h e.key _ []; rw [e2]; exact .int i t)) h1
    · simp only at e1; subst e1; exact .cons (as := []) (bs := []) (by (show Reads h e.key _ []; rw [e2]; exact .str x t)) h1
mutual
theorem Dq.reads (I : Inv X pins σ H s) : ∀ {v : V} {d : PyData} {u : Value}, Dq H v d → RelV v u → ∃ as, Reads s.heap u d as ∧ ∀ b ∈ as, H b ≠ none
  | _, _, _, .non, r => by cases r; exact ⟨[], .none, fun b hb => absurd hb (by simp)⟩
  | _, _, _, .bl b, r => by cases r; exact ⟨[], .bool b, fun b hb => absurd hb (by simp)⟩
  | _, _, _, .int i, r => by obtain ⟨t, rfl⟩ := r; exact ⟨[], .int i t, fun b hb => absurd hb (by simp)⟩
  | _, _, _, .str x, r => by obtain ⟨t, rfl⟩ := r; exact ⟨[], .str x t, fun b hb => absurd hb (by simp)⟩
  | _, _, _, .lst (a := a) (xs := xs) h q, r => by
    cases r; obtain ⟨_, its, n, rv, e⟩ : ObjOk X.prog X.w H s.heap a (.lst xs) := I.hok a _ h; obtain ⟨as, h1, h2⟩ := DqAll.reads I q rv
    refine ⟨_, .list e rfl rfl h1, fun b hb => ?_⟩
    rcases List.mem_cons.mp hb with z | z
    · rw [z, h]; exact fun y => nomatch y
    · exact h2 b z
  | _, _, _, .tup (a := a) (xs := xs) h q, r => by
    cases r; obtain ⟨_, its, rv, o, e, hc, n, hd⟩ : ObjOk X.prog X.w H s.heap a (.tup xs) := I.hok a _ h; obtain ⟨as, h1, h2⟩ := DqAll.reads I q rv
    exact ⟨_, .tuple e hc hd h1, h2⟩
  | _, _, _, .dct (a := a) (kvs := kvs) (ds := ds) h q, r => by
    cases r; obtain ⟨_, _, vs, rk, o, es, ep, e, hx, hd, _, hp, _⟩ : ObjOk X.prog X.w H s.heap a (.dK kvs) := I.hok a _ h
    obtain ⟨k1, k2⟩ := reads_keys (h := s.heap) rk hp; obtain ⟨as, h1, h2⟩ := DqAll.reads I q k2; have hl : (kvs.map (·.2)).length = ds.length := q.length
    have e1 : (((kvs.map fun p => match p.1 with | .inl i => PyData.int i | .inr x => PyData.str x).zip ds).map (·.1)) = (kvs.map fun p => match p.1 with | .inl i => PyData.int i | .inr x => PyData.str x) := List.map_fst_zip (by simp at hl ⊢; omega)
    have e2 : (((kvs.map fun p => match p.1 with | .inl i => PyData.int i | .inr x => PyData.str x).zip ds).map (·.2)) = ds := List.map_snd_zip (by simp at hl ⊢; omega)
    refine ⟨_, .dict (as := []) (bs := as) e hx.1 hd (by (rw [e1]; exact k1)) (by (rw [e2]; exact h1)), fun b hb => ?_⟩
    rcases List.mem_cons.mp (by simpa using hb) with z | z
    · rw [z, h]; exact fun y => nomatch y
    · exact h2 b z
theorem DqAll.reads (I : Inv X pins σ H s) : ∀ {vs : List V} {ds : List PyData} {us : List Value}, DqAll H vs ds → Vals vs us → ∃ as, ReadsAll s.heap us ds as ∧ ∀ b ∈ as, H b ≠ none
  | _, _, _, .nil, r => by cases r; exact ⟨[], .nil, fun b hb => absurd hb (by simp)⟩
  | _, _, _, .cons h q, r => by
    cases r with
    | cons r1 r2 =>
      obtain ⟨as, h1, h2⟩ := Dq.reads I h r1; obtain ⟨bs, h3, h4⟩ := DqAll.reads I q r2
      exact ⟨_, .cons h1 h3, fun b hb => (List.mem_append.mp hb).elim (h2 b) (h4 b)⟩
end
/-- repr(x), x a tuple, a list or a dict of data -/
def rRepr : List V → Hp → VK → Prop := fun xs H Q => ∃ (a : Addr) (d : PyData), xs = [.ref a] ∧ Dq H (.ref a) d ∧ d.showable = true ∧ d.depth ≤ 50 ∧ d.shown.length ≤ sizeLine ∧ Q (.str d.shown) H
theorem call_reprD {X : Cx} (hg : X.A.guards = some []) (hu : X.A.units + 64 < cLine) (hs : ∃ o, X.base.get? sysModules = some o) : CallR X (.builtin "repr") rRepr := by
  intro pins s σ H xs us Q I r h; obtain ⟨a, d, rfl, hd, h1, h2, h3, q⟩ := h; obtain ⟨u, rfl, ru⟩ := vals1 r; cases (show u = Value.ref a from ru)
  obtain ⟨as, hr, hn⟩ := hd.reads I (u := .ref a) rfl; obtain ⟨o, ho⟩ := hs
  have hsm : d.hasDict = true → sysModules ∉ as := fun _ hm => hn _ hm (I.bs _ _ ho).2
  exact repr_of_reads' hr h1 hsm hg (by omega) (fun _ _ e => e) (fun h' u tk k => ⟨.str _, H, I.kept (t' := tk) k, ⟨_, rfl⟩, q⟩) h3
end

/-! ### a def that asks repr: nothing is being shown around it -/
structure FnG (P : Program) (w : World) (K : PySem.W.Frag) (mg : Str → Option Value) (base : Heap) (k : Nat) (f : Addr) (fd : FuncData) (ps : List Str) (sp : Sp) : Prop where
  len : ∀ vs H Q E, sp vs H Q E → vs.length = ps.length
  run : ∀ (A : Around) (outer : List Env) (s : Shared) (H : Hp) (args : Args) (us : List Value) (vs : List V) (Q : VK) (E : XK), A.guards = some [] → Room k A → Env0 P w K mg base A outer s H → BindsTo s fd args (ps.zip us) → Vals vs us → sp vs H Q E → codeAny (model P w) A (.call (.ref f) args) (CR CX0 outer P w H s Q E) s
theorem _root_.L2.Fun.okG {P : Program} {w : World} {K : PySem.W.Frag} {mg : Str → Option Value} {base : Heap} {x qual : Str} {st : Stmt} {f : Addr} {fd : FuncData} {N ps : List Str} {k : Nat} {sp : Sp} (F : Fun K x qual st f fd) (S : FnScope N ps (defScope st)) (len : ∀ vs H Q E, sp vs H Q E → vs.length = ps.length)
    (hbody : ∀ (cdv : Value) (A : Around) (outer : List Env) (s : Shared) (H : Hp) (vs : List V) (Q : VK) (E : XK), A.guards = some [] → Room k (A.deeper (envOfC qual (defScope st) s.heap.objs.size f cdv)) → sp vs H Q E →
      ∃ t, PSs (cxOf CX0 P w K mg base N qual (defScope st) f cdv A outer s H E).nox (defBody st) t ∧ t { nx := fun _ H' => Q .non H', rt := Q } (start N vs) H) : FnG P w K mg base (k + 1) f fd ps sp := by
  obtain ⟨oc, od, kV, doc, pm, an, cdv, ct, osl, rfl, lk, hcd⟩ := F.ex; refine ⟨len, fun A outer s H args us vs Q E hgd hr e0 hb r hsp => ?_⟩; have hl := len _ _ _ _ hsp
  have KX : K.In s.heap := e0.mod.kin.keeps fun b o e => (e0.bs b o e).1; have lim : s.heap.NoLimit := e0.mod.nolimit.keeps fun b o e => (e0.bs b o e).1
  have hkind : ∀ y ∈ ps.zip us, (defScope st).names.lookup y.1 = some .local ∨ ((defScope st).names.lookup y.1 = some .cell ∧ ((cellsFrom (s.heap.objs.size + 1) (defScope st).names []).lookup y.1).isSome = true) := fun ⟨n, v⟩ hy => (S.par n (List.of_mem_zip hy).1).elim .inl fun q => .inr ⟨q, PySem.W.cellsFrom_some _ _ _ (.inl q)⟩
  refine codeAny_call_function hr.depth (KX _ _ lk) rfl S.co S.gen rfl (PySem.W.codeRec_of KX hcd) (hb _ _ _ _ ?_); refine wpAny_newFunctionEnv_cells S.kind hkind fun env he s1 x => ?_
  subst he; refine ⟨lim.keeps x.toInCall.keep, codeAny_func ?_⟩; obtain ⟨t, ht, hq⟩ := hbody cdv A outer s H vs Q E hgd (hr.deeper _) hsp
  have I : Inv (cxOf CX0 P w K mg base N qual (defScope st) f cdv A outer s H E) [] (start N vs) H s1 := inv_start S hr.hd e0 hl r x
  refine wpAny_mono (ht.nox.run [] s1 (start N vs) H _ I hq) (fun fl s' hs => ?_) fun e s' hs => hs
  have fin : ∀ {σ' : L2.St} {H' : Hp} {v : V} {u : Value}, Inv (cxOf CX0 P w K mg base N qual (defScope st) f cdv A outer s H E) [] σ' H' s' → RelV v u → Q v H' → CE outer P w H s Q u s' := fun {σ' H' v u} J rv q => ⟨v, H', J.os, J.bare, J.base, J.hok, rv, q⟩
  cases fl with
  | ret u => obtain ⟨v, σ', H', J, rv, q⟩ := hs; exact fin J rv q
  | next => obtain ⟨σ', H', J, q⟩ := hs; exact fin (v := V.non) (u := Value.none) J rfl q
  | brk => obtain ⟨_, _, _, q⟩ := hs; exact False.elim q
  | cont => obtain ⟨_, _, _, q⟩ := hs; exact False.elim q
section
variable {X : Cx} {k : Nat} {f : Addr} {fd : FuncData} {ps : List Str} {sp : Sp} {x : Str} {q pos : Pos} {e : Expr} {es : List Expr} {t : TA}
theorem pe_callG (F : FnG X.prog X.w X.K X.mg X.base k f fd ps sp) (hgd : X.A.guards = some []) (hr : Room k X.A) (hg : Gl X x) (hm : X.mg x = some (.ref f)) (hk : PySem.W.keepIn X.K (.ref f) = true) (hb : Binds X.K fd ps [])
    (ha : PA X (e :: es) t) (hdb : (x == ("__debug__" : Str)) = false := by decide) (he : starEach (e :: es) X.env = (false, eval e X.env) :: starEach es X.env := by rfl) (hpl : (backTo pos (starEach es X.env)).any (·.1) = false := by rfl) : PE X (.Call (.Name x q) (e :: es) [] pos) (tCall sp [] E0 t) := by
  refine ⟨fun pins s σ H Q I h => ?_⟩; refine wpAny_Call_Name_kw (ld_glob I hg hm ?_ hdb)
  refine PySem.W.callWith_K (h₀ := X.base) I.ok.mod.kin hk (thn (ha.run pos pins s σ H _ I h) fun us s1 ⟨vs, H1, I1, r, h1⟩ => ⟨I1.kIn, ?_⟩) he hpl
  have h1 : sp vs H1 Q E0 := by simpa using (show sp (vs ++ []) H1 Q E0 from h1)
  have hl : us.length = ps.length := by (rw [← r.length]; exact F.len _ _ _ _ h1)
  have b := hb s1 us I1.kIn (by (rw [List.append_nil]; exact hl)); rw [List.append_nil] at b
  refine wpAny_call (codeAny_mono (F.run X.A X.stack s1 H1 ⟨us, []⟩ us vs Q E0 hgd hr I1.env0 b r h1) fun r s' hq => ?_)
  cases r with
  | error e => exact False.elim hq
  | ok fl =>
    cases fl with
    | ret u => exact I1.after hq
    | next => exact False.elim hq
    | brk => exact False.elim hq
    | cont => exact False.elim hq
end
end Ox

namespace Ox
open PySem PySem.Spec PyProof.Rows L2
theorem law_callG {P : Program} {w : World} {K : PySem.W.Frag} {mg mb : Str → Option Value} {k : Nat} {fa a : Addr} {fd : FuncData} {x : Str} {sp : Sp} {s₁ : Shared} {vs : List Value} {ns : List Int} (KX : K.In s₁.heap) (hns : s₁.heap.Ns mainGlobals mg) (hb : s₁.heap.Ns builtinsNs mb)
    (hbb : ∀ x : Str, x ≠ "__name__" → mb x = bootBuiltins x) (hlim : s₁.heap.NoLimit) (hsys : ∃ mm, s₁.heap.Ns sysModules mm) (hg : s₁.gens = #[]) (ha : s₁.heap.get? a = some { cls := .type "list", data := .seq vs.toArray }) (hi : IntsAre vs ns) (hl : ns.length ≤ sizeLine) (hr : Room k callerA)
    (F : ∀ base : Heap, K.In base → base.Ns mainGlobals mg → (∃ o, base.get? sysModules = some o) → FnG P w K mg base k fa fd [x] sp) (hbind : ∀ (s : Shared) (u : Value), BindsTo s fd ⟨[u], []⟩ [(x, u)]) (hsp : ∀ H : Hp, SqL K H a (ns.map V.int) → sp [.ref a] H (fun v _ => v = .bl true) fun _ _ _ => False) :
    codeAny (model P w) callerA (.call (.ref fa) ⟨[.ref a], []⟩) (fun r s' => r = .ok (.ret (.bool true)) ∧ OldK s₁.heap s'.heap ∧ s'.os = s₁.os ∧ AllBare s'.gens) s₁ := by
  have rv := vals_ints hi; have lenV := hi.length
  have core : ∀ H : Hp, (∀ b u, H b = some u → b = a ∧ K.lookup a = none ∧ ∃ o xs, u = .frz o (.lst xs)) → SqL K H a (ns.map V.int) → HOk P w H s₁.heap →
      codeAny (model P w) callerA (.call (.ref fa) ⟨[.ref a], []⟩) (fun r s' => r = .ok (.ret (.bool true)) ∧ OldK s₁.heap s'.heap ∧ s'.os = s₁.os ∧ AllBare s'.gens) s₁ := by
    intro H hA hS hok
    have base_of : ∀ {b : Addr} {o : Obj}, s₁.heap.get? b = some o → H b = none → (hidT s₁.heap H).get? b = some o := fun e n => hidT_get e n
    have noD : ∀ {b : Addr} {o : Obj} {es : Array DictEntry} {ep : Nat}, s₁.heap.get? b = some o → o.data = .dict es ep → H b = none := fun {b o es ep} e d => by
      cases q : H b with
      | none => rfl
      | some u =>
        have e' := (hA b u q).1; subst e'; rw [ha] at e; cases e; have d' : Data.seq vs.toArray _ = Data.dict es ep := d; cases d'
    have nsK : ∀ {b : Addr} {m : Str → Option Value}, s₁.heap.Ns b m → (hidT s₁.heap H).Ns b m := fun {b m} ⟨o, es, ep, e, d, r⟩ => ⟨o, es, ep, base_of e (noD e d), d, r⟩
    have hKb : K.In (hidT s₁.heap H) := fun b o e => base_of (KX b o e) (by
      cases q : H b with
      | none => rfl
      | some u => have z := hA b u q; rw [z.1, z.2.1] at e; cases e)
    have hM : Mod K mg (hidT s₁.heap H) := ⟨hKb, nsK hns, ⟨mb, nsK hb, hbb⟩, let ⟨mc, h1, h2⟩ := hlim; ⟨mc, nsK h1, h2⟩⟩
    have hS1 : ∃ o, (hidT s₁.heap H).get? sysModules = some o := by
      obtain ⟨mm, hm⟩ := hsys; obtain ⟨o, es, ep, e, _⟩ := nsK hm; exact ⟨o, e⟩
    have e0 : Env0 P w K mg (hidT s₁.heap H) callerA [] s₁ H := ⟨rfl, hM, fun b o e => of_hidT e, Nat.le_of_eq (hidT_size _ _), trivial, fun b hb => absurd (show b ∈ ([] : List Addr) from hb) (by simp), hok, .of_eq hg⟩
    refine codeAny_mono ((F _ hKb (nsK hns) hS1).run callerA [] s₁ H ⟨[.ref a], []⟩ [.ref a] [.ref a] _ _ rfl hr e0 (hbind s₁ (.ref a)) (.cons rfl .nil) (hsp H hS)) fun r s' h => ?_
    cases r with
    | error e => exact False.elim h
    | ok fl =>
      cases fl with
      | next => exact False.elim h
      | brk => exact False.elim h
      | cont => exact False.elim h
      | ret u =>
        obtain ⟨v, H', os, bare, un, hok', r', q⟩ := h; have q' : v = .bl true := q; subst q'; obtain rfl : u = Value.bool true := r'
        refine ⟨rfl, OldK.of_keep fun b o e => ?_, os, bare⟩
        cases q : H b with
        | none => exact un.keep b o e q (by intro z; exact absurd (show b ∈ ([] : List Addr) from z) (by simp)) (by simp)
        | some u =>
          obtain ⟨_, _, ob, xs, z⟩ := hA b u q; subst z; have z2 := un.frzs b ob _ q; obtain ⟨e1, _⟩ := hok b _ q; obtain ⟨e2, _⟩ := hok' b _ z2
          rw [e] at e1; cases e1; exact e2
  cases hk : K.lookup a with
  | some o =>
    have e := KX a o hk; rw [ha] at e; cases e
    exact core (fun _ => none) (fun b u z => nomatch (show (none : Option HO) = some u from z)) (.inr ⟨_, vs.toArray, _, hk, rfl, rfl, rfl, by (rw [List.size_toArray, lenV]; exact hl), by simpa using rv⟩) (fun b u z => nomatch (show (none : Option HO) = some u from z))
  | none =>
    refine core (fun b => if b = a then some (.frz { cls := .type "list", data := .seq vs.toArray } (.lst (ns.map V.int))) else none) (fun b u z => ?_) (.inl (.inr ⟨{ cls := .type "list", data := .seq vs.toArray }, if_pos rfl⟩)) (fun b u z => ?_)
    · by_cases hb : b = a
      · exact ⟨hb, hk, _, _, (Option.some.inj ((if_pos hb).symm.trans z)).symm⟩
      · exact nomatch ((if_neg hb).symm.trans z)
    · by_cases hb : b = a
      · have z' := Option.some.inj ((if_pos hb).symm.trans z); subst z'; subst hb; exact ⟨ha, by (rw [List.length_map]; exact hl), vs, _, rv, ha⟩
      · exact nomatch ((if_neg hb).symm.trans z)
theorem walkG {l : PySem.W.OpenLaw} {n k : Nat} {q : Program} {loose : List Str} {XP : (Str → Option Value) → Heap → Prop} {YP : World → Heap → Prop} {d : DefRec} {K : Params → PySem.W.Frag} {sp : PySem.W.Frag → Sp} {x : Str} (hn : l.most = some n) (hn2 : n ≤ sizeLine) (hdf : d.params.defaults = []) (hr : Room k callerA)
    (hq : importsNone q = true) (hY : ∀ (w : World) (h : Heap), YP w h → (K w.params).In h)
    (F : ∀ (w : World) (mg : Str → Option Value) (fa : Addr) (h : Heap), (K w.params).In h → h.Ns mainGlobals mg → mg d.name = some (.ref fa) →
      ∃ fd : FuncData, (∀ (s : Shared) (u : Value), BindsTo s fd ⟨[u], []⟩ [(x, u)]) ∧ ∀ base : Heap, (K w.params).In base → base.Ns mainGlobals mg → (∃ o, base.get? sysModules = some o) → FnG l.prog w (K w.params) mg base k fa fd [x] (sp (K w.params)))
    (hsp : ∀ (K : PySem.W.Frag) (H : Hp) (a : Addr) (ns : List Int), ns.length ≤ n → SqL K H a (ns.map V.int) → sp K [.ref a] H (fun v _ => v = .bl true) fun _ _ _ => False) : PySem.W.WalkO q loose XP YP l.row.toRowW d [] (fun f vs => PySem.call f vs) := by
  refine Att.attach_call hn hdf fun w s₀ s₁ mg mb fa o pm cd doc a vs ns G Y ho hd hcd hmg hobj hints hlen hg => ?_
  have KX := hY w _ Y; obtain ⟨fd, hb, hF⟩ := F w mg fa _ KX G.T.g hmg; have hs := (G.T.seer hq).mods
  exact law_callG KX G.T.g G.T.b G.T.builtins G.T.nolimit (let ⟨mm, h, _⟩ := hs; ⟨mm, h⟩) hg hobj hints (Nat.le_trans hlen hn2) hr hF hb fun H hS => hsp _ H a ns hlen hS
end Ox

namespace Rd
open PySem PySem.Spec PyProof.Rows L2 Tq Dn Dc Ox
/-! ### repr of any data -/
def Shows (H : Hp) (v : V) (t : Str) : Prop :=
  (v = .non ∧ t = "None") ∨ (∃ b, v = .bl b ∧ t = if b then "True" else "False") ∨ (∃ i : Int, v = .int i ∧ i.natAbs.log2 < 1920 ∧ t = toString i) ∨ (∃ x, v = .str x ∧ (reprText x).length ≤ sizeLine ∧ t = reprText x) ∨
    (∃ a d, v = .ref a ∧ Dq H v d ∧ d.showable = true ∧ d.depth ≤ 50 ∧ d.shown.length ≤ sizeLine ∧ t = d.shown)
theorem Shows.up {H H' : Hp} {v : V} {t : Str} (h : Shows H v t) (s : Same H H') : Shows H' v t := by
  rcases h with h | h | h | h | ⟨a, d, e, hd, r⟩
  · exact .inl h
  · exact .inr (.inl h)
  · exact .inr (.inr (.inl h))
  · exact .inr (.inr (.inr (.inl h)))
  · exact .inr (.inr (.inr (.inr ⟨a, d, e, hd.keeps s, r⟩)))
def rShow : List V → Hp → VK → Prop := fun xs H Q => ∃ v t, xs = [v] ∧ Shows H v t ∧ Q (.str t) H
theorem call_show {X : Cx} (hg : X.A.guards = some []) (hu : X.A.units + 64 < cLine) (hs : ∃ o, X.base.get? sysModules = some o) : CallR X (.builtin "repr") rShow := by
  intro pins s σ H xs us Q I r h
  obtain ⟨v, t, rfl, h, q⟩ := h
  rcases h with ⟨rfl, rfl⟩ | ⟨b, rfl, rfl⟩ | ⟨i, rfl, hz, rfl⟩ | ⟨x, rfl, hz, rfl⟩ | ⟨a, d, rfl, hd, h1, h2, h3, rfl⟩
  · obtain ⟨u, rfl, ru⟩ := vals1 r
    cases (show u = Value.none from ru)
    exact PySem.P.repr_of_none ⟨.str _, H, I.tok _, ⟨_, rfl⟩, q⟩
  · obtain ⟨u, rfl, ru⟩ := vals1 r
    cases (show u = Value.bool b from ru)
    exact PySem.P.repr_of_bool ⟨.str _, H, I.tok _, ⟨_, by cases b <;> rfl⟩, q⟩
  · obtain ⟨u, rfl, tk, rfl⟩ := vals1 r
    exact PySem.P.repr_of_int hz ⟨.str _, H, I.tok _, ⟨_, rfl⟩, q⟩
  · obtain ⟨u, rfl, tk, rfl⟩ := vals1 r
    exact PySem.P.repr_of_str ⟨.str _, H, I.tok _, ⟨_, rfl⟩, q⟩ hz
  · exact call_reprD hg hu hs pins s σ H _ us Q I r ⟨a, d, rfl, hd, h1, h2, h3, q⟩
/-! ### what may raise -/
theorem passN0 {X : Cx} {σ : L2.St} : PassesAt (L2N.CX X.prog X.w) X σ E0 := fun pins H s e s' I c => by
  obtain ⟨_, _, _, _, _, _, _, _, _, _, _, _, z⟩ := c; exact z.elim
theorem okN {P : Program} {w : World} {K : PySem.W.Frag} {mg : Str → Option Value} {base : Heap} {x qual : Str} {st : Stmt} {f : Addr} {fd : FuncData} {N ps : List Str} {k : Nat} {sp : Sp} (F : Fun K x qual st f fd) (S : FnScope N ps (defScope st)) (len : ∀ vs H Q E, sp vs H Q E → vs.length = ps.length)
    (hbody : ∀ (cdv : Value) (A : Around) (outer : List Env) (s : Shared) (H : Hp) (vs : List V) (Q : VK) (E : XK), Room k (A.deeper (envOfC qual (defScope st) s.heap.objs.size f cdv)) → sp vs H Q E →
      ∃ t, PSs (cxOf (L2N.CX P w) P w K mg base N qual (defScope st) f cdv A outer s H E) (defBody st) t ∧ t { nx := fun _ H' => Q .non H', rt := Q } (start N vs) H) : FnOk P w K mg base (L2N.CX P w) (k + 1) f fd ps sp := by
  obtain ⟨oc, od, kV, doc, pm, an, cdv, ct, osl, rfl, lk, hcd⟩ := F.ex
  exact fn_of lk hcd S len fun A outer s H vs Q E hr hsp => hbody cdv A outer s H vs Q E hr hsp
def spNeed (K : PySem.W.Frag) (C CN : Addr) : Sp := fun vs H Q E => ∃ (r : Addr) (rs : RowsL) (v : V) (d : PyData), vs = [.ref r, v] ∧ RdAt K C H r rs ∧ Dp K H v d ∧
  ((numD d ((rs.length : Int) - 1) = true ∧ Q .non H) ∨ (numD d ((rs.length : Int) - 1) = false ∧ ∀ dd, H dd = none → E (.ref CN) (some dd) (upd H dd (.xd [("value", v)]))))
def spGet (K : PySem.W.Frag) (C CN : Addr) : Sp := fun vs H Q E => ∃ (r : Addr) (rs : RowsL) (v : V) (d : PyData), vs = [.ref r, v] ∧ RdAt K C H r rs ∧ Dp K H v d ∧
  ((∃ n q, v = .int ((n : Nat) : Int) ∧ rs[n]? = some q ∧ Q (.ref q.1) H) ∨ (numD d ((rs.length : Int) - 1) = false ∧ ∀ dd, H dd = none → E (.ref CN) (some dd) (upd H dd (.xd [("value", v)]))))
structure TxG (K : PySem.W.Frag) (mg : Str → Option Value) (P : Program) (w : World) (base : Heap) (C CN : Addr) : Prop extends TxR0 K mg P w base C where
  gN : mg "InvalidNumber" = some (.ref CN)
  oN : ∃ J, PySem.Mk0.OTxt K CN J "value" "InvalidNumber.__init__" "IndexError" "IndexError.__new__" PySem.Mk0.bIx
section
variable {P : Program} {w : World} {K : PySem.W.Frag} {mg : Str → Option Value} {base : Heap}
theorem scNe : FnScope ["self", "at"] ["self", "at"] (defScope sNeed) := ⟨rfl, rfl, rfl, by decide +kernel, rfl, by decide +kernel, by decide +kernel⟩
theorem ok_need {C CN f : Addr} {fd : FuncData} (F : Fun K "_need_line" "Reader._need_line" sNeed f fd) (T : TxG K mg P w base C CN) : FnOk P w K mg base (L2N.CX P w) 4 f fd ["self", "at"] (spNeed K C CN) := by
  obtain ⟨g, gd, mG, kG, bG, GG⟩ := T.within_
  obtain ⟨J, oN⟩ := T.oN
  refine okN F scNe (fun vs H Q E h => ?_) (fun cdv A outer s H vs Q E hr h => ?_)
  · obtain ⟨r, rs, v, d, rfl, _⟩ := h; rfl
  · obtain ⟨r, rs, v, d, rfl, ⟨dx, L, TT, ps, e, hL, _⟩, hd, k⟩ := h
    refine ⟨_, pss_one (ps_if (pt_not (pt_val (pe_call GG hr (by rfl) mG kG bG .nil pass0 (pa_cons (pv 1) (pa_cons (pe_op op_sub (pe_callB call_lenT (by rfl) T.len PySem.boot_len (pa_cons (pe_fld (pv 0) rfl) pa_nil)) pe_int) pa_nil)))))
      (pss_one (L2N.ps_raise rfl (L2N.takes_of rfl rfl rfl rfl) (pmk_oi oN T.gN hr (pa_cons (pv 1) pa_nil)))) pss_nil), ?_⟩
    refine ⟨_, rfl, _, rfl, r, C, dx, _, _, rfl, e, T.cl, T.nL, rd_lines L TT, L, _, rfl, hL.1, _, _, rfl, rfl, v, d, _, rfl, hd, ?_⟩
    rw [List.length_map]
    refine ⟨_, rfl, ?_⟩
    rcases k with ⟨hn, k⟩ | ⟨hn, k⟩
    · rw [hn]; exact iteF k
    · rw [hn]; exact iteT ⟨_, rfl, _, rfl, fun dd nd => k dd nd⟩
structure TxG2 (K : PySem.W.Frag) (mg : Str → Option Value) (P : Program) (w : World) (base : Heap) (C CN : Addr) : Prop extends TxG K mg P w base C CN where
  need : ∃ f fd, Meth K C "_need_line" f ∧ Binds K fd ["self", "at"] [] ∧ FnOk P w K mg base (L2N.CX P w) 4 f fd ["self", "at"] (spNeed K C CN)
theorem scGe : FnScope ["self", "at"] ["self", "at"] (defScope sGet) := ⟨rfl, rfl, rfl, by decide +kernel, rfl, by decide +kernel, by decide +kernel⟩
theorem rd_no {L T : Addr} {m : Str} (h1 : m ≠ "_lines") (h2 : m ≠ "_tested") : (rdF L T).lookup m = none := by
  rw [← rd_flds, lookup_putF, if_neg h2, lookup_putF, if_neg h1]; rfl
theorem ok_get {C CN f : Addr} {fd : FuncData} (F : Fun K "__getitem__" "Reader.__getitem__" sGet f fd) (T : TxG2 K mg P w base C CN) : FnOk P w K mg base (L2N.CX P w) 5 f fd ["self", "at"] (spGet K C CN) := by
  obtain ⟨g, gd, M, bG, GG⟩ := T.need
  refine okN F scGe (fun vs H Q E h => ?_) (fun cdv A outer s H vs Q E hr h => ?_)
  · obtain ⟨r, rs, v, d, rfl, _⟩ := h; rfl
  · obtain ⟨r, rs, v, d, rfl, hR, hd, k⟩ := h
    obtain ⟨dx, L, TT, ps, e, hL, _⟩ := id hR
    refine ⟨_, pss_cons (ps_expr (pe_meth (pv 0) T.cl M GG hr bG .nil (L2N.passes_call (L2N.takes_of rfl rfl rfl rfl) (fun _ _ _ _ h => h)) (pa_cons (pv 1) pa_nil)))
      (pss_one (ps_ret (pe_ix ix_tup (pe_fld (pv 0) rfl) (pv 1) (fun _ _ => rfl)))), ?_⟩
    refine ⟨_, rfl, r, dx, _, rfl, e, rd_no (by decide +kernel) (by decide +kernel), _, rfl, r, rs, v, d, rfl, hR, hd, ?_⟩
    rcases k with ⟨n, q, rfl, hq, k⟩ | ⟨hn, k⟩
    · cases hd
      have hn : n < rs.length := (List.getElem?_eq_some_iff.mp hq).1
      refine .inl ⟨?_, ?_⟩
      · show (decide (0 ≤ (n : Int)) && decide ((n : Int) ≤ (rs.length : Int) - 1)) = true
        simp; omega
      · exact ⟨_, rfl, r, C, dx, _, _, rfl, e, T.cl, T.nL, rd_lines L TT, _, rfl, L, _, _, .ref q.1, rfl, rfl, hL.1, atI_nat (by rw [List.getElem?_map, hq]; rfl), k⟩
    · exact .inr ⟨hn, k⟩
end
end Rd

namespace Rd
open PySem PySem.Spec PyProof.Rows L2 Tq Dn Dc Ox
/-- table and part of the lines that read -/
def rdOf : Ln → Option (Str × Str)
  | .read t p => some (t, p)
  | _ => none
def rps (ls : List Ln) : List (Str × Str) := ls.filterMap rdOf
def partsOf (t : Str) (ls : List Ln) : List Str := ((rps ls).filter fun x => decide (x.1 = t)).map Prod.snd
/-- tables and their parts, in a dict of which these are the pairs -/
structure ReadsD (H : Hp) (kvs : List (Key × V)) (ls : List Ln) : Prop where
  ex : ∃ es : List (Str × Addr), kvs = es.map (fun e => (Sum.inr e.1, V.ref e.2)) ∧ AscS ((rps ls).map Prod.fst) (es.map Prod.fst) ∧ ∀ e ∈ es, H e.2 = some (.tup ((partsOf e.1 ls).map V.str))
def spReadings (K : PySem.W.Frag) (C : Addr) : Sp := fun vs H Q _ => ∃ (r : Addr) (rs : RowsL), vs = [.ref r] ∧ RdAt K C H r rs ∧ RdOk rs ∧ ∀ H' D kvs, Same H H' → H D = none → H' D = some (.dK kvs) → ReadsD H' kvs (lnsOf rs) → Q (.ref D) H'
def rTupOf (K : PySem.W.Frag) : List V → Hp → VK → Prop := fun xs H Q => ∃ p ys, xs = [.ref p] ∧ SqL K H p ys ∧ ∀ l, H l = none → Q (.ref l) (upd H l (.tup ys))
theorem call_tupOf {X : Cx} : CallR X (.type "tuple") (rTupOf X.K) := by
  intro pins s σ H xs us Q I r h
  obtain ⟨p, ys, e, h1, h2⟩ := h
  exact call_tuple_of pins s σ H xs us Q I r ⟨p, ys, e, .inl ⟨h1, h2⟩⟩
theorem rp_read {l : Ln} (h : l.word = "read") : ∃ t p, l = .read t p := by
  cases l with
  | go n => exact absurd (show ("go" : Str) = "read" from h) (by decide +kernel)
  | ift t p n => exact absurd (show ("if" : Str) = "read" from h) (by decide +kernel)
  | look t p => exact absurd (show ("look" : Str) = "read" from h) (by decide +kernel)
  | read t p => exact ⟨t, p, rfl⟩
theorem rdOf_none {l : Ln} (h : l.word ≠ "read") : rdOf l = none := by
  cases l <;> first | rfl | exact absurd rfl h
abbrev isRd (r : Addr × Ln) : Bool := decide (r.2.word = ("read" : Str))
theorem rps_rows : ∀ rs : RowsL, (rs.filter isRd).map (fun r => rdOf r.2) = (rps (lnsOf rs)).map some
  | [] => rfl
  | r :: rs => by
    have ih := rps_rows rs
    by_cases h : r.2.word = "read"
    · obtain ⟨t, p, e⟩ := rp_read h
      rw [List.filter_cons_of_pos (by exact decide_eq_true h), List.map_cons, ih]
      show _ = ((r.2 :: lnsOf rs).filterMap rdOf).map some
      rw [List.filterMap_cons, e]; rfl
    · rw [List.filter_cons_of_neg (by simp [h]), ih]
      show _ = ((r.2 :: lnsOf rs).filterMap rdOf).map some
      rw [List.filterMap_cons, rdOf_none h]; rfl
def tabOf (l : Ln) : Str := ((rdOf l).map Prod.fst).getD Str.empty
def parOf (l : Ln) : Str := ((rdOf l).map Prod.snd).getD Str.empty
theorem some_map {α β γ : Type} {f : α → Option β} {g : Option β → γ} {l : List α} {m : List β} (h : l.map f = m.map some) : l.map (fun a => g (f a)) = m.map fun b => g (some b) := by
  have := congrArg (List.map g) h
  rw [List.map_map, List.map_map] at this
  exact this
theorem tabs_rows (rs : RowsL) : (rs.filter isRd).map (fun r => tabOf r.2) = (rps (lnsOf rs)).map Prod.fst :=
  some_map (g := fun o => (o.map Prod.fst).getD Str.empty) (rps_rows rs)
theorem some_filter {α β γ : Type} {f : α → Option β} {p : Option β → Bool} {g : Option β → γ} : ∀ {l : List α} {m : List β}, l.map f = m.map some → (l.filter fun a => p (f a)).map (fun a => g (f a)) = (m.filter fun b => p (some b)).map fun b => g (some b)
  | [], [], _ => rfl
  | [], _ :: _, h => nomatch h
  | _ :: _, [], h => nomatch h
  | a :: l, b :: m, h => by
    have h1 : f a = some b := (List.cons.inj h).1
    have ih := some_filter (p := p) (g := g) (List.cons.inj h).2
    by_cases c : p (some b) = true
    · rw [List.filter_cons_of_pos (by rw [h1]; exact c), List.filter_cons_of_pos (p := fun b => p (some b)) (a := b) c, List.map_cons, List.map_cons, ih, h1]
    · rw [List.filter_cons_of_neg (by rw [h1]; exact c), List.filter_cons_of_neg (p := fun b => p (some b)) (a := b) c, ih]
theorem parts_rows (t : Str) (rs : RowsL) : ((rs.filter isRd).filter fun r => decide (tabOf r.2 = t)).map (fun r => parOf r.2) = partsOf t (lnsOf rs) :=
  some_filter (p := fun o => decide ((o.map Prod.fst).getD Str.empty = t)) (g := fun o => (o.map Prod.snd).getD Str.empty) (rps_rows rs)
abbrev prE (e : Str × Addr) : Key × V := (Sum.inr e.1, V.ref e.2)
theorem put_new {es : List (Str × Addr)} {t : Str} {v : V} (h : t ∉ es.map Prod.fst) : putK (es.map prE) (Sum.inr t : Key) v = es.map prE ++ [(Sum.inr t, v)] := by
  unfold putK
  rw [if_neg]
  rw [List.any_map]
  intro z
  obtain ⟨e, he, q⟩ := List.any_eq_true.mp z
  have q' : (Sum.inr e.1 : Key) = Sum.inr t := of_decide_eq_true q
  exact h (by rw [← Sum.inr.inj q']; exact List.mem_map_of_mem he)
theorem scRg : FnScope ["self", "reads", "tables", "line", "table"] ["self"] (defScope sReadings) := ⟨rfl, rfl, rfl, by decide +kernel, rfl, by decide +kernel, by decide +kernel⟩
section
variable {P : Program} {w : World} {K : PySem.W.Frag} {mg : Str → Option Value} {base : Heap}
theorem ok_readings {C f : Addr} {fd : FuncData} (F : Fun K "readings" "Reader.readings" sReadings f fd) (T : TxR0 K mg P w base C) : FnOk P w K mg base CX0 2 f fd ["self"] (spReadings K C) := by
  obtain ⟨g, gd, mG, kG, bG, GG⟩ := T.ascS
  refine F.ok scRg (fun vs H Q E h => ?_) (fun cdv A outer s H vs Q E hr h => ?_)
  · obtain ⟨r, rs, rfl, _⟩ := h; rfl
  · obtain ⟨r, rs, rfl, ⟨dx, L, TT, ps, e, hL, _⟩, ok, k⟩ := h
    refine ⟨_, pss_cons (ps_set (i := 1) scRg.nd rfl (Or.inr rfl) (pe_lc (own := [("line", 3)]) (g := gName 3) (tt := tTest (tOp rEq (tOp (rIxT K) (tVar 3) (tC (.int 0))) (tC (.str "read")))) (te := tVar 3) rfl scRg.nd (pi_tup (pe_fld (pv 0) rfl))
        (blkOk_by (N := ["self", "reads", "tables", "line", "table"]) (sc := defScope sReadings) (by decide +kernel)) (fun _ _ _ _ _ => pg_name (i := 3) scRg.nd rfl (Or.inl rfl))
        (fun _ _ _ _ _ => pts_one (pt_cmpR op_eq (pe_ix ix_tup (pv 3) pe_int (fun _ _ => rfl)) pe_str (nomark _))) (fun _ _ _ _ _ => pv 3)))
      (pss_cons (ps_set (i := 2) scRg.nd rfl (Or.inl rfl) (pe_call GG hr (by rfl) mG kG bG .nil pass0 (pa_cons (pe_lc (own := [("line", 3)]) (g := gName 3) (tt := tYes) (te := tOp (rIxT K) (tVar 3) (tC (.int 1))) rfl scRg.nd (pi_list (pv 1))
        (blkOk_by (N := ["self", "reads", "tables", "line", "table"]) (sc := defScope sReadings) (by decide +kernel)) (fun _ _ _ _ _ => pg_name (i := 3) scRg.nd rfl (Or.inl rfl)) (fun _ _ _ _ _ => pts_nil)
        (fun _ _ _ _ _ => pe_ix ix_tup (pv 3) pe_int (fun _ _ => rfl))) pa_nil)))
      (pss_one (ps_ret (pe_dc (own := [("table", 4)]) (g := gName 4) (tt := tYes) (tk := tVar 4)
        (tv := tCB (rTupOf K) (tCons (tLc (iList K (tVar 1)) (gName 3) (tTest (tOp rEq (tOp (rIxT K) (tVar 3) (tC (.int 1))) (tVar 4))) (tOp (rIxT K) (tVar 3) (tC (.int 2))) [3]) tNil)) rfl scRg.nd (pi_tup (pv 2))
        (blkOk_by (N := ["self", "reads", "tables", "line", "table"]) (sc := defScope sReadings) (by decide +kernel)) (fun _ _ _ _ _ => pg_name (i := 4) scRg.nd rfl (Or.inr rfl)) (fun _ _ _ _ _ => pts_nil) (fun _ _ _ _ _ => pv 4)
        (fun _ _ _ _ _ => pe_callTy call_tupOf (by rfl) T.tuple PyProof.Rows.boot_tuple (pa_cons (pe_lc (own := [("line", 3)]) (g := gName 3) (tt := tTest (tOp rEq (tOp (rIxT K) (tVar 3) (tC (.int 1))) (tVar 4))) (te := tOp (rIxT K) (tVar 3) (tC (.int 2))) rfl scRg.nd (pi_list (pv 1))
          (blkOk_by (N := ["self", "reads", "tables", "line", "table"]) (by rfl)) (fun _ _ _ _ _ => pg_name (i := 3) scRg.nd rfl (Or.inl rfl))
          (fun _ _ _ _ _ => pts_one (pt_cmpR op_eq (pe_ix ix_tup (pv 3) pe_int (fun _ _ => rfl)) (pv 4) (nomark _))) (fun _ _ _ _ _ => pe_ix ix_tup (pv 3) pe_int (fun _ _ => rfl))) pa_nil)))))), ?_⟩
    have take_filter : ∀ (i : Nat) (q : Addr × Ln), rs[i]? = some q → (rs.take (i + 1)).filter isRd = (rs.take i).filter isRd ++ (if isRd q then [q] else []) := fun i q hq => by
      rw [List.take_add_one, hq, List.filter_append]
      congr 1
      by_cases h : isRd q
      · rw [if_pos h]; exact List.filter_cons_of_pos h
      · rw [if_neg h]; exact List.filter_cons_of_neg h
    refine ⟨_, rfl, r, C, dx, _, _, rfl, e, T.cl, T.nL, rd_lines L TT, L, rfl, ⟨_, hL.1⟩, fun D hD => ?_⟩
    have off : Off D (fun i acc (_ : Hp) => acc = ((rs.take i).filter isRd).map fun r => V.ref r.1) := fun _ _ _ _ _ _ _ z => z
    refine lc_fil walk_tup hD (fun i acc _ => acc = ((rs.take i).filter isRd).map fun r => V.ref r.1) rfl (fun H' s' => sqT_up hL.1 s') ?_ ?_
    · rintro i v acc H2 H3 hi s2 e2 rfl ⟨rfl, hv⟩
      rw [List.getElem?_map] at hv
      obtain ⟨q, hq, rfl⟩ := Option.map_eq_some_iff.mp hv
      have hr := sqT_up (hL.2 q (List.mem_of_getElem? hq)) s2
      refine ⟨rfl, ?_⟩
      refine ⟨_, rfl, q.1, _, _, _, rfl, rfl, hr, atI_nat (j := 0) (ln_word q.2), rfl, _, rfl, ?_⟩
      have ed : decide (V.str q.2.word = V.str "read") = isRd q := by unfold isRd; simp
      refine ite2 (fun c => ?_) (fun c => ?_)
      · refine ⟨_, rfl, put_of hD off s2 e2 (Same.refl _) ?_ ?_⟩
        · rw [List.length_map, sizeLine_eq]
          have := List.length_filter_le isRd (rs.take i)
          rw [List.length_take] at this
          have := ok.few
          omega
        · rw [take_filter i q hq, if_pos (by rw [← ed]; exact c), List.map_append]; rfl
      · refine fil_of s2 e2 (Same.refl _) ?_
        rw [take_filter i q hq, if_neg (by rw [← ed]; exact c), List.append_nil]
    · rintro acc H2 s2 e2 rfl
      rw [List.length_map, List.take_length] at e2
      generalize hrr : rs.filter isRd = rr at e2
      have ar : ∀ q ∈ rr, ∃ t p, q.2 = .read t p := fun q hq => by rw [← hrr] at hq; exact rp_read (of_decide_eq_true (List.mem_filter.mp hq).2)
      have qr : ∀ q ∈ rr, SqT K H2 q.1 q.2.vs := fun q hq => by rw [← hrr] at hq; exact sqT_up (hL.2 q (List.mem_filter.mp hq).1) s2
      have lr : rr.length ≤ 16 := by rw [← hrr]; exact Nat.le_trans (List.length_filter_le _ _) ok.few
      have at1 : ∀ q ∈ rr, q.2.vs[1]? = some (.str (tabOf q.2)) ∧ q.2.vs[2]? = some (.str (parOf q.2)) := fun q hq => by
        obtain ⟨t, p, e⟩ := ar q hq
        rw [e]; exact ⟨rfl, rfl⟩
      refine ⟨_, rfl, D, rfl, ⟨_, SqL.of e2⟩, fun D2 hD2 => ?_⟩
      have off2 : Off D2 (fun i acc (_ : Hp) => acc = (rr.take i).map fun r => V.str (tabOf r.2)) := fun _ _ _ _ _ _ _ z => z
      refine lc_fil walk_list hD2 (fun i acc _ => acc = (rr.take i).map fun r => V.str (tabOf r.2)) rfl (fun H' s' => sqL_up (SqL.of e2) s') ?_ ?_
      · rintro i v acc H3 H4 hi s3 e3 rfl ⟨rfl, hv⟩
        rw [List.getElem?_map] at hv
        obtain ⟨q, hq, rfl⟩ := Option.map_eq_some_iff.mp hv
        have hm := List.mem_of_getElem? hq
        refine ⟨rfl, tt_yes ⟨_, rfl, q.1, _, _, _, rfl, rfl, sqT_up (qr q hm) s3, atI_nat (j := 1) (at1 q hm).1, ?_⟩⟩
        refine put_of hD2 off2 s3 e3 (Same.refl _) (by rw [List.length_map, List.length_take, sizeLine_eq]; omega) ?_
        rw [List.take_add_one, hq, List.map_append]; rfl
      · rintro acc H3 s3 e3 rfl
        rw [List.length_map, List.take_length] at e3
        have e3' : H3 D2 = some (.lst ((rr.map fun r => tabOf r.2).map V.str)) := by rw [e3, List.map_map]; rfl
        refine ⟨D2, _, rfl, SqL.of e3', by rw [List.length_map]; omega, fun H4 p ts s4 np hA hn e4 => ?_⟩
        have hA' : AscS ((rps (lnsOf rs)).map Prod.fst) ts := by rw [← tabs_rows, hrr]; exact hA
        have nd : ts.Nodup := List.nodup_iff_pairwise_ne.mpr (hA.up.imp fun {x y} z e => by subst e; exact absurd z (List.lt_irrefl _))
        have hD4 : H4 D = some (.lst (rr.map fun r => V.ref r.1)) := s4 _ _ (s3 _ _ e2)
        refine ⟨_, rfl, p, rfl, ⟨_, SqT.of e4⟩, fun D3 hD3 => ?_⟩
        have base0 : Same H H4 := (s2.trans s3).trans s4
        refine dc_tup (xs := ts.map V.str) (fun i H' => Same H4 H' ∧ ∃ es : List (Str × Addr), es.map Prod.fst = ts.take i ∧ H' D3 = some (.dK (es.map prE)) ∧ ∀ x ∈ es, H' x.2 = some (.tup ((partsOf x.1 (lnsOf rs)).map V.str)))
          ⟨same_new hD3, [], rfl, upd_same, fun x hx => nomatch hx⟩ (fun i H' _ z => sqT_up (SqT.of e4) z.1) ?_ ?_
        · rintro i x H5 hx ⟨s5, es, ee, e5, hes⟩
          rw [List.getElem?_map] at hx
          obtain ⟨t, ht, rfl⟩ := Option.map_eq_some_iff.mp hx
          refine ⟨rfl, tt_yes ⟨_, rfl, ?_⟩⟩
          refine ⟨_, rfl, D, rfl, ⟨_, SqL.of (s5 _ _ hD4)⟩, fun D4 hD4' => ?_⟩
          have off4 : Off D4 (fun i acc (_ : Hp) => acc = ((rr.take i).filter fun r => decide (tabOf r.2 = t)).map fun r => V.str (parOf r.2)) := fun _ _ _ _ _ _ _ z => z
          refine lc_fil walk_list hD4' (fun i acc _ => acc = ((rr.take i).filter fun r => decide (tabOf r.2 = t)).map fun r => V.str (parOf r.2)) rfl (fun H' s' => sqL_up (SqL.of (s5 _ _ hD4)) s') ?_ ?_
          · rintro j v acc H6 H7 hj s6 e6 rfl ⟨rfl, hv⟩
            rw [List.getElem?_map] at hv
            obtain ⟨q, hq, rfl⟩ := Option.map_eq_some_iff.mp hv
            have hm := List.mem_of_getElem? hq
            have hq6 := sqT_up (qr q hm) ((s3.trans s4).trans (s5.trans s6))
            have nx : (rr.take (j + 1)).filter (fun r => decide (tabOf r.2 = t)) = (rr.take j).filter (fun r => decide (tabOf r.2 = t)) ++ [q].filter fun r => decide (tabOf r.2 = t) := by rw [List.take_add_one, hq, List.filter_append]; rfl
            refine ⟨rfl, ?_⟩
            refine ⟨_, rfl, q.1, _, _, _, rfl, rfl, hq6, atI_nat (j := 1) (at1 q hm).1, _, rfl, rfl, _, rfl, ?_⟩
            refine ite2 (fun c => ?_) (fun c => ?_)
            · have c' : tabOf q.2 = t := V.str.inj (of_decide_eq_true c)
              refine ⟨_, rfl, q.1, _, _, _, rfl, rfl, hq6, atI_nat (j := 2) (at1 q hm).2, ?_⟩
              refine put_of hD4' off4 s6 e6 (Same.refl _) ?_ ?_
              · rw [List.length_map, sizeLine_eq]
                have := List.length_filter_le (fun r : Addr × Ln => decide (tabOf r.2 = t)) (rr.take j)
                rw [List.length_take] at this
                omega
              · rw [nx, List.filter_cons_of_pos (by exact decide_eq_true c'), List.map_append]; rfl
            · have c' : ¬ tabOf q.2 = t := fun z => c (by rw [z]; simp)
              refine fil_of s6 e6 (Same.refl _) ?_
              rw [nx, List.filter_cons_of_neg (by simp [c'])]; simp
          · rintro acc H6 s6 e6 rfl
            rw [List.length_map, List.take_length] at e6
            have e6' : H6 D4 = some (.lst ((partsOf t (lnsOf rs)).map V.str)) := by rw [e6, ← parts_rows, hrr, List.map_map]; rfl
            refine ⟨D4, _, rfl, SqL.of e6', fun l nl => ?_⟩
            have s7 := s6.trans (same_new (o := HO.tup ((partsOf t (lnsOf rs)).map V.str)) nl)
            have el : es.length = i := by
              have := congrArg List.length ee
              rw [List.length_map, List.length_take] at this
              have := (List.getElem?_eq_some_iff.mp ht).1
              omega
            have tn : t ∉ es.map Prod.fst := by
              rw [ee]
              intro z
              obtain ⟨k, hk, hk2⟩ := List.getElem_of_mem z
              rw [List.length_take] at hk
              obtain ⟨h1, h2⟩ := List.getElem?_eq_some_iff.mp ht
              rw [List.getElem_take] at hk2
              exact (List.pairwise_iff_getElem.mp (List.nodup_iff_pairwise_ne.mp nd)) k i (by omega) h1 (by omega) (hk2.trans h2.symm)
            refine ⟨es.map prE, Sum.inr t, rfl, s7 _ _ e5, ?_, ?_⟩
            · rw [List.length_map, el, sizeLine_eq]
              have := (List.getElem?_eq_some_iff.mp ht).1
              rw [List.length_map] at hn
              omega
            · rw [put_new tn]
              have nD3 : H4 D3 = none := hD3
              refine ⟨same_to nD3 (s5.trans s7), es ++ [(t, l)], by rw [List.map_append, ee, List.take_add_one, ht]; rfl, by rw [upd_same, List.map_append]; rfl, fun x hx => ?_⟩
              have ne : ∀ a o, upd H6 l (HO.tup ((partsOf t (lnsOf rs)).map V.str)) a = some (.tup o) → a ≠ D3 := fun a o q z => by
                subst z
                rw [s7 _ _ e5] at q
                cases q
              rcases List.mem_append.mp hx with z | z
              · have q := s7 _ _ (hes x z)
                rw [upd_ne (ne _ _ q)]; exact q
              · rw [List.mem_singleton.mp z]
                rw [upd_ne (ne l _ upd_same)]; exact upd_same
        · rintro H5 ⟨s5, es, ee, e5, hes⟩
          rw [List.length_map, List.take_length] at ee
          exact k H5 D3 _ (base0.trans s5) (base0.free hD3) e5 ⟨es, rfl, by rw [ee]; exact hA', hes⟩
end
end Rd

namespace Rd
open PySem PySem.Spec PyProof.Rows L2 Tq Dn Dc Ox
abbrev sLn : Stmt := top 50
abbrev sLns : Stmt := top 51
def T3 : List Str := ["item", "order", "buyer"]
def P2 : List Str := ["live", "arch"]
/-- a drawn line -/
def Ln.drawn (m : Nat) : Ln → Prop
  | .go n => n ≤ m
  | .ift t p n => t ∈ T3 ∧ p ∈ P2 ∧ n ≤ m
  | .look t p => t ∈ T3 ∧ p ∈ P2
  | .read t p => t ∈ T3 ∧ p ∈ P2
theorem names_t : ∀ t ∈ T3, nameS t = true := by decide +kernel
theorem names_p : ∀ p ∈ P2, nameS p = true := by decide +kernel
theorem drawn_fine {l : Ln} {m : Nat} (h : l.drawn m) : l.fine m = true := by
  cases l with
  | go n => exact decide_eq_true h
  | ift t p n => show (nameS t && (nameS p && decide (n ≤ m))) = true; rw [names_t t h.1, names_p p h.2.1, decide_eq_true h.2.2]; rfl
  | look t p => show (nameS t && nameS p) = true; rw [names_t t h.1, names_p p h.2]; rfl
  | read t p => show (nameS t && nameS p) = true; rw [names_t t h.1, names_p p h.2]; rfl
theorem sub_len {α : Type} [DecidableEq α] : ∀ {xs ys : List α}, xs.Nodup → (∀ x ∈ xs, x ∈ ys) → xs.length ≤ ys.length
  | [], _, _, _ => Nat.zero_le _
  | x :: xs, ys, nd, h => by
    obtain ⟨n1, n2⟩ := List.nodup_cons.mp nd
    have hx := h x List.mem_cons_self
    have ih := sub_len (xs := xs) (ys := ys.erase x) n2 fun z hz => by
      have hz2 := h z (.tail _ hz)
      exact (List.mem_erase_of_ne (fun e => n1 (by rw [← e]; exact hz))).mpr hz2
    rw [List.length_erase_of_mem hx] at ih
    have : 0 < ys.length := List.length_pos_of_mem hx
    rw [List.length_cons]; omega
def six : List (List Str) := [["item", "live"], ["item", "arch"], ["order", "live"], ["order", "arch"], ["buyer", "live"], ["buyer", "arch"]]
theorem in_six : ∀ t ∈ T3, ∀ p ∈ P2, [t, p] ∈ six := by decide +kernel
theorem drawn_ok {rs : RowsL} (h : ∀ r ∈ rs, r.2.drawn rs.length) (few : rs.length ≤ 16) : RdOk rs := by
  refine ⟨few, fun r hr => drawn_fine (h r hr), fun ps hA => ?_⟩
  refine Nat.le_trans (sub_len (up_nodup hA.up) (ys := six) fun k hk => ?_) (by decide)
  obtain ⟨l, hl, rfl⟩ := List.mem_map.mp ((hA.mem k).mp hk)
  obtain ⟨h1, h2⟩ := List.mem_filter.mp hl
  obtain ⟨r, hr, rfl⟩ := List.mem_map.mp h1
  have hd := h r hr
  cases e : r.2 with
  | go n => rw [e] at h2; exact absurd h2 (by show ¬ ([("if" : Str)].contains ("go" : Str)) = true; decide +kernel)
  | ift t p n => rw [e] at hd; exact in_six t hd.1 p hd.2.1
  | look t p => rw [e] at hd; exact in_six t hd.1 p hd.2
  | read t p => rw [e] at hd; exact in_six t hd.1 p hd.2
structure TxE2 (K : PySem.W.Frag) (mg : Str → Option Value) (P : Program) (w : World) (base : Heap) : Prop extends TxM K mg where
  roll : Has P w K mg base "_law_roll" 1 ["_law_dice_here", "_law_total"] spRoll
  one : Has P w K mg base "_law_one_of" 2 ["_law_dice_here", "_law_items"] spOne
def spLn : Sp := fun vs H Q _ => ∃ (p : Addr) (m : Nat), vs = [.ref p, .int (m : Int)] ∧ DiceAt H p ∧ m ≤ 16 ∧ ∀ a l H', Keep p H H' → DiceAt H' p → H a = none → H' a = some (.tup l.vs) → Ln.drawn m l → Q (.ref a) H'
def sizes : List Nat := [0, 1, 2, 3, 4, 5, 7, 9, 16]
def spLns (K : PySem.W.Frag) : Sp := fun vs H Q _ => ∃ (p : Addr), vs = [.ref p, .int 16] ∧ DiceAt H p ∧ ∀ (L : Addr) (rs : RowsL) (H' : Hp), Keep p H H' → DiceAt H' p → H L = none → H' L = some (.tup (rs.map fun r => .ref r.1)) → (∀ r ∈ rs, H' r.1 = some (.tup r.2.vs)) → (∀ r ∈ rs, r.2.drawn rs.length) → rs.length ≤ 16 → Q (.ref L) H'
section
variable {P : Program} {w : World} {K : PySem.W.Frag} {mg : Str → Option Value} {base : Heap}
theorem scLn : FnScope ["_law_dice_here", "_law_size", "_law_way", "_law_table", "_law_part"] ["_law_dice_here", "_law_size"] (defScope sLn) := ⟨rfl, rfl, rfl, by decide +kernel, rfl, by decide +kernel, by decide +kernel⟩
theorem pick_s {xs : List Str} {i : Nat} {x : V} (h : (xs.map V.str)[i]? = some x) : ∃ s ∈ xs, x = .str s := by
  rw [List.getElem?_map] at h
  obtain ⟨s, hs, rfl⟩ := Option.map_eq_some_iff.mp h
  exact ⟨s, List.mem_of_getElem? hs, rfl⟩
theorem keep_free {p q : Addr} {H H' : Hp} (k : Keep p H H') (hD : DiceAt H' p) (n : H' q = none) : H q = none := by
  obtain ⟨a, b, c, hp, _⟩ := hD
  cases e : H q with
  | none => rfl
  | some o =>
    have hq : q ≠ p := fun z => by rw [z, hp] at n; cases n
    rw [k q o hq e] at n; cases n
/-- what is new stands apart from the dice -/
theorem dice_ne {p q : Addr} {H : Hp} (hD : DiceAt H p) (n : H q = none) : q ≠ p := fun e => by
  obtain ⟨a, b, c, hp, _⟩ := hD
  rw [e, hp] at n; cases n
theorem dice_upd {p q : Addr} {H : Hp} {o : HO} (hD : DiceAt H p) (n : q ≠ p) : DiceAt (upd H q o) p := by
  obtain ⟨a, b, c, hp, h⟩ := hD
  exact ⟨a, b, c, by rw [upd_ne (Ne.symm n)]; exact hp, h⟩
theorem ok_ln {f : Addr} {fd : FuncData} (F : Fun K "_law_line" "_law_line" sLn f fd) (T : TxE2 K mg P w base) : FnOk P w K mg base CX0 3 f fd ["_law_dice_here", "_law_size"] spLn := by
  obtain ⟨fR, fdR, mR, kR, bR, GR⟩ := T.roll
  obtain ⟨fO, fdO, mO, kO, bO, GO⟩ := T.one
  refine F.ok scLn (fun vs H Q E h => ?_) (fun cdv A outer s H vs Q E hr h => ?_)
  · obtain ⟨p, m, rfl, _⟩ := h; rfl
  · obtain ⟨p, m, rfl, hD, hm, k⟩ := h
    have hr1 : Room 1 _ := hr.mono (by decide)
    refine ⟨_, pss_cons (ps_par (i := 2) (j := 3) rfl scLn.nd rfl rfl (by decide) rfl rfl (pa_cons (pe_call GR hr1 (by rfl) mR kR bR .nil pass0 (pa_cons (pv 0) (pa_cons pe_int pa_nil))) (pa_cons (pe_call GO hr (by rfl) mO kO bO .nil pass0 (pa_cons (pv 0) (pa_cons (pe_lst (pa_cons pe_str (pa_cons pe_str (pa_cons pe_str pa_nil)))) pa_nil))) pa_nil)) (by rfl))
      (pss_cons (ps_set (i := 4) scLn.nd rfl (Or.inl rfl) (pe_call GO hr (by rfl) mO kO bO .nil pass0 (pa_cons (pv 0) (pa_cons (pe_lst (pa_cons pe_str (pa_cons pe_str pa_nil))) pa_nil))))
      (pss_cons (ps_if (pt_cmpR op_eq (pv 2) pe_int (nomark _)) (pss_one (ps_ret (pe_tup (pa_cons pe_str (pa_cons (pe_call GR hr1 (by rfl) mR kR bR .nil pass0 (pa_cons (pv 0) (pa_cons (pe_op op_add (pv 1) pe_int) pa_nil))) pa_nil))))) pss_nil)
      (pss_cons (ps_if (pt_cmpR op_lt (pv 2) pe_int (nomark _)) (pss_one (ps_ret (pe_tup (pa_cons pe_str (pa_cons (pv 3) (pa_cons (pv 4) (pa_cons (pe_call GR hr1 (by rfl) mR kR bR .nil pass0 (pa_cons (pv 0) (pa_cons (pe_op op_add (pv 1) pe_int) pa_nil))) pa_nil))))))) pss_nil)
      (pss_one (ps_ret (pe_ifExp (pt_cmpR op_eq (pv 2) pe_int (nomark _)) (pe_tup (pa_cons pe_str (pa_cons (pv 3) (pa_cons (pv 4) pa_nil)))) (pe_tup (pa_cons pe_str (pa_cons (pv 3) (pa_cons (pv 4) pa_nil)))))))))), ?_⟩
    obtain ⟨a, b, c, hp, ha⟩ := id hD
    refine ⟨_, rfl, p, 8, a, b, c, rfl, hp, ha, by decide, by decide, fun r x1 y1 z1 h1 h2 h3 => ?_⟩
    have k1 : Keep p H (upd H p (.lst [.int x1, .int y1, .int z1])) := keep_upd
    have d1 : DiceAt (upd H p (.lst [.int x1, .int y1, .int z1])) p := .upd h3
    generalize upd H p (HO.lst [V.int x1, V.int y1, V.int z1]) = H1 at k1 d1 ⊢
    refine ⟨_, rfl, (by show 3 ≤ sizeLine; decide), fun l1 n1 => ?_⟩
    have e1 := dice_ne d1 n1
    refine ⟨p, l1, _, rfl, dice_upd d1 e1, upd_same, e1, (by show 0 < 3; decide), (by show 3 < 1000; decide), fun i1 v1 a1 b1 c1 hv1 ha1 => ?_⟩
    obtain ⟨t, ht, rfl⟩ := pick_s (xs := T3) hv1
    have k2 : Keep p H (upd (upd H1 l1 (.lst [.str "item", .str "order", .str "buyer"])) p (.lst [.int a1, .int b1, .int c1])) := (k1.trans (keep_new n1)).trans keep_upd
    have d2 : DiceAt (upd (upd H1 l1 (.lst [.str "item", .str "order", .str "buyer"])) p (.lst [.int a1, .int b1, .int c1])) p := .upd ha1
    generalize upd (upd H1 l1 (HO.lst [V.str "item", V.str "order", V.str "buyer"])) p (HO.lst [V.int a1, V.int b1, V.int c1]) = H2 at k2 d2 ⊢
    refine ⟨_, _, rfl, ?_⟩
    refine ⟨_, rfl, (by show 2 ≤ sizeLine; decide), fun l2 n2 => ?_⟩
    have e2 := dice_ne d2 n2
    refine ⟨p, l2, _, rfl, dice_upd d2 e2, upd_same, e2, (by show 0 < 2; decide), (by show 2 < 1000; decide), fun i2 v2 a2 b2 c2 hv2 ha2 => ?_⟩
    obtain ⟨q, hq, rfl⟩ := pick_s (xs := P2) hv2
    have k3 : Keep p H (upd (upd H2 l2 (.lst [.str "live", .str "arch"])) p (.lst [.int a2, .int b2, .int c2])) := (k2.trans (keep_new n2)).trans keep_upd
    have d3 : DiceAt (upd (upd H2 l2 (.lst [.str "live", .str "arch"])) p (.lst [.int a2, .int b2, .int c2])) p := .upd ha2
    generalize upd (upd H2 l2 (HO.lst [V.str "live", V.str "arch"])) p (HO.lst [V.int a2, V.int b2, V.int c2]) = H3 at k3 d3 ⊢
    obtain ⟨a3, b3, c3, hp3, ha3⟩ := id d3
    have fin : ∀ (l : Ln) (H4 : Hp), Keep p H H4 → DiceAt H4 p → l.drawn m → ∀ u, H4 u = none → Q (.ref u) (upd H4 u (.tup l.vs)) := fun l H4 k4 d4 dr u nu =>
      k u l _ (k4.trans (keep_new nu)) (dice_upd d4 (dice_ne d4 nu)) (keep_free k4 d4 nu) upd_same dr
    refine ⟨_, rfl, rfl, _, rfl, ite2 (fun c0 => ?_) (fun c0 => ?_)⟩
    · refine ⟨_, rfl, _, rfl, _, _, rfl, rfl, p, _, a3, b3, c3, rfl, hp3, ha3, by omega, by omega, fun n x y z g1 g2 g3 => ?_⟩
      refine ⟨(by show 2 ≤ sizeLine; decide), fun u nu => ?_⟩
      have := fin (.go n.toNat) _ (k3.trans keep_upd) (.upd g3) (by show n.toNat ≤ m; omega) u nu
      rw [show ((Ln.go n.toNat).vs) = [.str "go", .int n] by show [V.str "go", V.int (n.toNat : Int)] = _; rw [Int.toNat_of_nonneg g1]] at this
      exact this
    refine ⟨_, rfl, _, _, rfl, rfl, _, rfl, ite2 (fun c1' => ?_) (fun c1' => ?_)⟩
    · refine ⟨_, rfl, _, rfl, _, rfl, _, rfl, _, _, rfl, rfl, p, _, a3, b3, c3, rfl, hp3, ha3, by omega, by omega, fun n x y z g1 g2 g3 => ?_⟩
      refine ⟨(by show 4 ≤ sizeLine; decide), fun u nu => ?_⟩
      have := fin (.ift t q n.toNat) _ (k3.trans keep_upd) (.upd g3) ⟨ht, hq, by omega⟩ u nu
      rw [show ((Ln.ift t q n.toNat).vs) = [.str "if", .str t, .str q, .int n] by show [V.str "if", V.str t, V.str q, V.int (n.toNat : Int)] = _; rw [Int.toNat_of_nonneg g1]] at this
      exact this
    refine ⟨_, rfl, rfl, _, rfl, ite2 (fun c2' => ?_) (fun c2' => ?_)⟩
    · exact ⟨_, rfl, _, rfl, (by show 3 ≤ sizeLine; decide), fun u nu => fin (.look t q) _ k3 d3 ⟨ht, hq⟩ u nu⟩
    · exact ⟨_, rfl, _, rfl, (by show 3 ≤ sizeLine; decide), fun u nu => fin (.read t q) _ k3 d3 ⟨ht, hq⟩ u nu⟩
end
end Rd

namespace Rd
open PySem PySem.Spec PyProof.Rows L2 Tq Dn Dc Ox
structure TxE3 (K : PySem.W.Frag) (mg : Str → Option Value) (P : Program) (w : World) (base : Heap) : Prop extends TxE2 K mg P w base where
  ln : Has P w K mg base "_law_line" 3 ["_law_dice_here", "_law_size"] spLn
theorem scLns : FnScope ["_law_dice_here", "_law_most", "_law_size", "_law_one", "_law_turn"] ["_law_dice_here", "_law_most"] (defScope sLns) := ⟨rfl, rfl, rfl, by decide +kernel, rfl, by decide +kernel, by decide +kernel⟩
abbrev vN (n : Nat) : V := .int (n : Int)
theorem sizes_le : ∀ n ∈ sizes, n ≤ 16 := by decide
section
variable {P : Program} {w : World} {K : PySem.W.Frag} {mg : Str → Option Value} {base : Heap}
theorem ok_lns {f : Addr} {fd : FuncData} (F : Fun K "_law_lines" "_law_lines" sLns f fd) (T : TxE3 K mg P w base) : FnOk P w K mg base CX0 4 f fd ["_law_dice_here", "_law_most"] (spLns K) := by
  obtain ⟨fL, fdL, mL, kL, bL, GL⟩ := T.ln
  obtain ⟨fO, fdO, mO, kO, bO, GO⟩ := T.one
  refine F.ok scLns (fun vs H Q E h => ?_) (fun cdv A outer s H vs Q E hr h => ?_)
  · obtain ⟨p, rfl, _⟩ := h; rfl
  · obtain ⟨p, rfl, hDi, k⟩ := h
    have hr2 : Room 2 _ := hr.mono (by decide)
    refine ⟨_, pss_cons (ps_set (i := 2) scLns.nd rfl (Or.inr rfl) (pe_call GO hr2 (by rfl) mO kO bO .nil pass0 (pa_cons (pv 0) (pa_cons (pe_lc (own := [("_law_one", 3)]) (g := gName 3) (tt := tTest (tOp (rI0 fun i j => .bl (decide (i ≤ j))) (tVar 3) (tVar 1))) (te := tVar 3) rfl scLns.nd
          (pi_tup (pe_tup (pa_cons pe_int (pa_cons pe_int (pa_cons pe_int (pa_cons pe_int (pa_cons pe_int (pa_cons pe_int (pa_cons pe_int (pa_cons pe_int (pa_cons pe_int pa_nil)))))))))))
          (blkOk_by (N := ["_law_dice_here", "_law_most", "_law_size", "_law_one", "_law_turn"]) (sc := defScope sLns) (by decide +kernel)) (fun _ _ _ _ _ => pg_name (i := 3) scLns.nd rfl (Or.inl rfl))
          (fun _ _ _ _ _ => pts_one (pt_cmpR op_le (pv 3) (pv 1) (nomark _))) (fun _ _ _ _ _ => pv 3)) pa_nil))))
      (pss_one (ps_ret (pe_callTy call_tupOf (by rfl) T.tuple PyProof.Rows.boot_tuple (pa_cons (pe_lc (own := [("_law_turn", 4)]) (g := gName 4) (tt := tYes) rfl scLns.nd (pi_range1 (by rfl) T.range (pa_cons (pv 2) pa_nil))
          (blkOk_by (N := ["_law_dice_here", "_law_most", "_law_size", "_law_one", "_law_turn"]) (sc := defScope sLns) (by decide +kernel)) (fun _ _ _ _ _ => pg_name (i := 4) scLns.nd rfl (Or.inl rfl)) (fun _ _ _ _ _ => pts_nil)
          (fun _ _ _ _ _ => pe_call GL hr (by rfl) mL kL bL .nil pass0 (pa_cons (pv 0) (pa_cons (pv 2) pa_nil)))) pa_nil)))), ?_⟩
    refine ⟨_, rfl, (by show 9 ≤ sizeLine; decide), fun t nt => ⟨t, rfl, ⟨_, SqT.of upd_same⟩, fun D hD => ?_⟩⟩
    have st := same_new (o := HO.tup (sizes.map vN)) nt
    have ht : upd H t (HO.tup (sizes.map vN)) t = some (.tup (sizes.map vN)) := upd_same
    change upd H t (HO.tup (sizes.map vN)) D = none at hD
    show ∃ W : Nat → Nat → Hp → Prop, (∃ m, W 0 m (upd (upd H t (HO.tup (sizes.map vN))) D (.lst []))) ∧ _
    have off : Off D (fun i acc (_ : Hp) => acc = (sizes.take i).map vN) := fun _ _ _ _ _ _ _ z => z
    refine lc_fil (walk_tup (xs := sizes.map vN)) hD (fun i acc _ => acc = (sizes.take i).map vN) rfl (fun H' s' => sqT_up (SqT.of ht) s') ?_ ?_
    · rintro i v acc H2 H3 hi s2 e2 rfl ⟨rfl, hv⟩
      rw [List.getElem?_map] at hv
      obtain ⟨n, hn, rfl⟩ := Option.map_eq_some_iff.mp hv
      refine ⟨rfl, ?_⟩
      refine ⟨_, rfl, _, rfl, _, _, rfl, rfl, _, rfl, ?_⟩
      have h16 := sizes_le n (List.mem_of_getElem? hn)
      refine ite2 (fun _ => ?_) (fun c => absurd (decide_eq_true (show (n : Int) ≤ 16 by omega)) c)
      refine ⟨_, rfl, put_of hD off s2 e2 (Same.refl _) ?_ ?_⟩
      · rw [List.length_map, List.length_take, sizeLine_eq]
        have : sizes.length = 9 := rfl
        omega
      · rw [List.take_add_one, hn, List.map_append]; rfl
    · rintro acc H2 s2 e2 rfl
      rw [List.length_map, List.take_length] at e2
      have s02 := st.trans s2
      have d2 : DiceAt H2 p := let ⟨a, b, c, hp, ha⟩ := hDi; ⟨a, b, c, s02 _ _ hp, ha⟩
      have nDp : D ≠ p := fun z => by
        obtain ⟨a, b, c, hp, ha⟩ := hDi
        rw [z, st _ _ hp] at hD; cases hD
      refine ⟨p, D, _, rfl, d2, e2, nDp, (by show 0 < 9; decide), (by show 9 < 1000; decide), fun i v a b c hv ha => ?_⟩
      rw [List.getElem?_map] at hv
      obtain ⟨n, hn, rfl⟩ := Option.map_eq_some_iff.mp hv
      have h16 := sizes_le n (List.mem_of_getElem? hn)
      have k3 : Keep p H (upd H2 p (.lst [.int a, .int b, .int c])) := (same_keep s02).trans keep_upd
      have d3 : DiceAt (upd H2 p (.lst [.int a, .int b, .int c])) p := .upd ha
      generalize upd H2 p (HO.lst [V.int a, V.int b, V.int c]) = H3 at k3 d3 ⊢
      refine ⟨_, rfl, (n : Int), rfl, by omega, by omega, fun D2 hD2 => ?_⟩
      have n2p : D2 ≠ p := dice_ne d3 hD2
      refine lc_range (n := n) (fun i H' => Keep p H3 H' ∧ DiceAt H' p ∧ ∃ rs : RowsL, H' D2 = some (.lst (rs.map fun r => .ref r.1)) ∧ (∀ r ∈ rs, H' r.1 = some (.tup r.2.vs)) ∧ rs.length = i ∧ ∀ r ∈ rs, r.2.drawn n)
        ⟨keep_new hD2, dice_upd d3 n2p, [], upd_same, (fun r hr => nomatch hr), rfl, fun r hr => nomatch hr⟩ ?_ ?_
      · rintro i H4 hi ⟨k4, d4, rs, e4, hrs, el, dr⟩
        refine ⟨rfl, tt_yes ?_⟩
        refine ⟨_, rfl, _, rfl, p, n, rfl, d4, h16, fun u l H5 k5 d5 nu eu hl => ?_⟩
        have e5 : H5 D2 = some (.lst (rs.map fun r => .ref r.1)) := k5 _ _ n2p e4
        refine ⟨_, e5, by rw [List.length_map, sizeLine_eq]; omega, fun x o hx e => ?_, dice_upd d5 n2p, rs ++ [(u, l)], by rw [upd_same, List.map_append]; rfl, fun r hr => ?_, by simp [el], fun r hr => ?_⟩
        · rw [upd_ne (fun z => by rw [z, hD2] at e; cases e)]
          exact k5 x o hx (k4 x o hx e)
        · have ne : ∀ a o, H5 a = some (.tup o) → a ≠ D2 := fun a o q z => by
            subst z; rw [e5] at q; cases q
          rcases List.mem_append.mp hr with z | z
          · obtain ⟨a', b', c', hp', _⟩ := d4
            have q := k5 r.1 _ (fun z' => by have := hrs r z; rw [z', hp'] at this; cases this) (hrs r z)
            rw [upd_ne (ne _ _ q)]; exact q
          · rw [List.mem_singleton.mp z]
            rw [upd_ne (ne u _ eu)]; exact eu
        · rcases List.mem_append.mp hr with z | z
          · exact dr r z
          · rw [List.mem_singleton.mp z]; exact hl
      · rintro H4 ⟨k4, d4, rs, e4, hrs, el, dr⟩
        refine ⟨D2, _, rfl, SqL.of e4, fun l nl => ?_⟩
        have kk := (k3.trans k4).trans (keep_new (o := HO.tup (rs.map fun r => V.ref r.1)) nl)
        have dd := dice_upd (o := HO.tup (rs.map fun r => V.ref r.1)) d4 (dice_ne d4 nl)
        refine k l rs _ kk dd (keep_free (k3.trans k4) d4 nl) upd_same (fun r hr => ?_) (fun r hr => by rw [el]; exact dr r hr) (by omega)
        exact same_new nl _ _ (hrs r hr)
end
end Rd

namespace Rd
open PySem PySem.Spec PyProof.Rows L2 Tq Dn Dc Ox
abbrev sTd : Stmt := top 52
abbrev sRds : Stmt := top 53
section
variable {P : Program} {w : World} {K : PySem.W.Frag}
/-- [line[1:3] for line in lines if ..] -/
abbrev tKeys (K : PySem.W.Frag) (i j : Nat) (tst : TE) : TE := tLc (iTup K (tVar i)) (gName j) (tTest tst) (tSl (rSlT K) (tVar j) (tPart (tC (.int 1))) (tPart (tC (.int 3)))) [j]
theorem keys_rd {i j : Nat} {tst : TE} {σ : L2.St} {H : Hp} {Q : VK} {L : Addr} {rs : RowsL} (ws : List Str) (hi : σ[i]? = some (some (.ref L))) (hj : j < σ.length) (hL : LinesAt K H L rs) (few : rs.length < 64) (hg : ("go" : Str) ∉ ws)
    (ht : ∀ (σ' : L2.St) (H' : Hp) (q : Addr × Ln) (R : VK), σ'[j]? = some (some (.ref q.1)) → SqT K H' q.1 q.2.vs → R (.bl (ws.contains q.2.word)) H' → tst σ' H' R)
    (k : ∀ D ks H2, Same H H2 → H D = none → H2 D = some (.lst (ks.map fun r : Row Str => V.ref r.1)) → TupsX K H2 ks → ks.map Prod.snd = keysOf ws (lnsOf rs) → ks.length < 64 → (∀ r ∈ ks, r.2 ≠ []) → Q (.ref D) H2) : tKeys K i j tst σ H Q := by
  refine ⟨_, hi, L, rfl, ⟨_, hL.1⟩, fun D hD => ?_⟩
  have off : Off D (fun i acc H' => ∃ ks : List (Row Str), acc = (ks.map fun r => V.ref r.1) ∧ TupsX K H' ks ∧ ks.map Prod.snd = keysOf ws ((rs.take i).map Prod.snd)) :=
    fun i acc l H2 H3 e kp ⟨ks, z1, z2, z3⟩ => ⟨ks, z1, fun r hr => off_seq e kp (z2 r hr), z3⟩
  have klen : ∀ {ks : List (Row Str)} {ls : List Ln}, ks.map Prod.snd = keysOf ws ls → ks.length ≤ ls.length := fun {ks ls} ek => by
    have h2 := congrArg List.length ek
    rw [List.length_map] at h2
    rw [h2]
    unfold keysOf
    rw [List.length_map]
    exact List.length_filter_le _ _
  refine lc_fil walk_tup hD (fun i acc H' => ∃ ks : List (Row Str), acc = (ks.map fun r => V.ref r.1) ∧ TupsX K H' ks ∧ ks.map Prod.snd = keysOf ws ((rs.take i).map Prod.snd)) ⟨[], rfl, fun r z => (by cases z), rfl⟩ (fun H' s' => sqT_up hL.1 s') ?_ ?_
  · rintro n v acc H2 H3 hn s2 e2 ⟨ks, rfl, hks, ek⟩ ⟨rfl, hv⟩
    rw [List.getElem?_map] at hv
    obtain ⟨r, hri, rfl⟩ := Option.map_eq_some_iff.mp hv
    have hr := sqT_up (hL.2 r (List.mem_of_getElem? hri)) s2
    have nx : (rs.take (n + 1)).map Prod.snd = (rs.take n).map Prod.snd ++ [r.2] := by rw [List.take_add_one, hri, List.map_append]; rfl
    have kx : keysOf ws ((rs.take (n + 1)).map Prod.snd) = keysOf ws ((rs.take n).map Prod.snd) ++ keysOf ws [r.2] := by rw [nx]; unfold keysOf; rw [List.filter_append, List.map_append]
    have hw : ((wipe σ [j]).set j (some (V.ref r.1)))[j]? = some (some (V.ref r.1)) := by
      rw [List.getElem?_set_self]
      rw [wipe_length]; exact hj
    refine ⟨?_, ?_⟩
    · show ((σ.set j none).set j (some (V.ref r.1))).set j none = σ.set j none
      rw [List.set_set, List.set_set]
    refine ht _ _ r _ hw hr ⟨_, rfl, ?_⟩
    refine ite2 (fun c => ?_) (fun c => ?_)
    · have hwd : r.2.word ≠ "go" := fun e => hg (by rw [← e]; exact List.contains_iff_mem.mp c)
      refine ⟨_, hw, _, rfl, _, rfl, r.1, _, rfl, hr, ln_part, fun p np => ?_⟩
      rw [ln_cut hwd]
      have sn := same_new (o := HO.tup (r.2.key.map V.str)) np
      refine put_of hD off s2 e2 sn ?_ ⟨ks ++ [(p, r.2.key)], by rw [List.map_append]; rfl, fun q hq => ?_, ?_⟩
      · rw [List.length_map]
        have h1 := klen ek
        rw [List.length_map, List.length_take] at h1
        rw [sizeLine_eq]; omega
      · rcases List.mem_append.mp hq with z | z
        · exact sqT_up (hks q z) sn
        · rw [List.mem_singleton.mp z]; exact SqT.of upd_same
      · rw [List.map_append, ek, kx]
        congr 1
        show [r.2.key] = ([r.2].filter fun l => ws.contains l.word).map Ln.key
        rw [List.filter_cons_of_pos (by exact c)]; rfl
    · refine fil_of s2 e2 (Same.refl _) ⟨ks, rfl, hks, ?_⟩
      rw [ek, kx]
      show _ = _ ++ ([r.2].filter fun l => ws.contains l.word).map Ln.key
      rw [List.filter_cons_of_neg (by exact c)]
      simp
  · rintro acc H2 s2 e2 ⟨ks, rfl, hks, ek⟩
    rw [List.length_map, List.take_length] at ek
    refine k D ks H2 s2 hD e2 hks ek ?_ fun r hr => ?_
    · have h1 := klen ek
      rw [List.length_map] at h1
      omega
    · have : r.2 ∈ keysOf ws (lnsOf rs) := by rw [← ek]; exact List.mem_map_of_mem hr
      obtain ⟨l, hl, e⟩ := List.mem_map.mp this
      obtain ⟨_, hl2⟩ := List.mem_filter.mp hl
      rw [← e]
      exact ln_key fun z => hg (by rw [← z]; exact List.contains_iff_mem.mp hl2)
/-- tuple(sorted(set(..))) -/
abbrev tAscK (K : PySem.W.Frag) (P : Program) (w : World) (tl : TE) : TE := tCB (rTupOf K) (tCons (tCB (rSortX K P w) (tCons (tCB (rSetX K P w) (tCons tl tNil)) tNil)) tNil)
theorem asc_rd {tl : TE} {σ : L2.St} {H : Hp} {Q : VK} {ls : List Ln} (ws : List Str)
    (h : tl σ H fun v H1 => ∃ D ks, v = .ref D ∧ Same H H1 ∧ H1 D = some (.lst (ks.map fun r : Row Str => V.ref r.1)) ∧ TupsX K H1 ks ∧ ks.map Prod.snd = keysOf ws ls ∧ ks.length < 64 ∧ (∀ r ∈ ks, r.2 ≠ []) ∧ ∀ H' p ps, Same H1 H' → H1 p = none → Asc (keysOf ws ls) ps → PairsAt K H' p ps → Q (.ref p) H')
    (mono : ∀ (R R' : VK), (∀ v H, R v H → R' v H) → tl σ H R → tl σ H R') : tAscK K P w tl σ H Q := by
  refine mono _ _ (fun v H1 ⟨l, ks, ev, s0, hl, hk, ek, few, ne, k⟩ => ?_) h
  refine ⟨l, ks, by rw [ev], SqL.of hl, hk, few, fun a L na hof hto => ?_⟩
  have s1 := same_new (o := SetX P w a L) na
  refine ⟨a, L, rfl, upd_same, fun r hr => sqT_up (hk r (hof r hr)) s1, fun r hr => ne r (hof r hr), fun L' p pm few' up np => ?_⟩
  have s2 := s1.trans (same_new (o := HO.lst (L'.map fun r => V.ref r.1)) np)
  refine ⟨p, _, rfl, SqL.of upd_same, fun q nq => ?_⟩
  have s3 := s2.trans (same_new (o := HO.tup (L'.map fun r => V.ref r.1)) nq)
  refine k _ q (L'.map Prod.snd) s3 (s2.free nq) ⟨?_, fun x => ?_⟩ ⟨L', rfl, SqT.of upd_same, fun r hr => sqT_up (hk r (hof r (pm.mem_iff.mp hr))) s3⟩
  · rw [List.pairwise_map] at up ⊢; exact up
  · rw [← ek, (pm.map Prod.snd).mem_iff]
    constructor
    · intro z
      obtain ⟨r, hr, rfl⟩ := List.mem_map.mp z
      exact List.mem_map_of_mem (hof r hr)
    · intro z
      obtain ⟨r, hr, rfl⟩ := List.mem_map.mp z
      exact hto r hr
theorem td_rd {i j : Nat} {tst : TE} {σ : L2.St} {H : Hp} {Q : VK} {L : Addr} {rs : RowsL} (ws : List Str) (hi : σ[i]? = some (some (.ref L))) (hj : j < σ.length) (hL : LinesAt K H L rs) (few : rs.length < 64) (hg : ("go" : Str) ∉ ws)
    (ht : ∀ (σ' : L2.St) (H' : Hp) (q : Addr × Ln) (R : VK), σ'[j]? = some (some (.ref q.1)) → SqT K H' q.1 q.2.vs → R (.bl (ws.contains q.2.word)) H' → tst σ' H' R)
    (k : ∀ H' p ps, Same H H' → H p = none → Asc (keysOf ws (lnsOf rs)) ps → PairsAt K H' p ps → Q (.ref p) H') : tAscK K P w (tKeys K i j tst) σ H Q := by
  show tKeys K i j tst σ H fun v H1 => tAscK K P w (tC v) σ H1 Q
  refine keys_rd ws hi hj hL few hg ht fun D ks H2 s2 nD eD hk ek fw ne => ?_
  exact asc_rd (K := K) (P := P) (w := w) (tl := tC (.ref D)) (ls := lnsOf rs) ws ⟨D, ks, rfl, Same.refl _, eD, hk, ek, fw, ne, fun H' p ps s' np hA hP => k H' p ps (s2.trans s') (s2.free np) hA hP⟩ (fun R R' h z => h _ _ z)
end
def spTd (K : PySem.W.Frag) : Sp := fun vs H Q _ => ∃ (L : Addr) (rs : RowsL), vs = [.ref L] ∧ LinesAt K H L rs ∧ rs.length < 64 ∧ ∀ H' p ps, Same H H' → H p = none → Asc (keysOf ["if"] (lnsOf rs)) ps → PairsAt K H' p ps → Q (.ref p) H'
section
variable {P : Program} {w : World} {K : PySem.W.Frag} {mg : Str → Option Value} {base : Heap}
theorem scTd : FnScope ["_law_lines_here", "_law_line_here"] ["_law_lines_here"] (defScope sTd) := ⟨rfl, rfl, rfl, by decide +kernel, rfl, by decide +kernel, by decide +kernel⟩
theorem has_one (x y : Str) : decide (V.str y = V.str x) = [x].contains y := by
  rw [List.contains_cons, Bool.eq_iff_iff]
  simp
theorem ok_td {f : Addr} {fd : FuncData} (F : Fun K "_law_tested" "_law_tested" sTd f fd) (T : TxM K mg) : FnOk P w K mg base CX0 1 f fd ["_law_lines_here"] (spTd K) := by
  refine F.ok scTd (fun vs H Q E h => ?_) (fun cdv A outer s H vs Q E hr h => ?_)
  · obtain ⟨L, rs, rfl, _⟩ := h; rfl
  · obtain ⟨L, rs, rfl, hL, few, k⟩ := h
    refine ⟨_, pss_one (ps_ret (pe_callTy call_tupOf (by rfl) T.tuple PyProof.Rows.boot_tuple (pa_cons (pe_callB (cr_sortX rfl) (by rfl) T.sorted PyProof.Rows.boot_sorted (pa_cons (pe_callTy (cr_setX rfl hr.units) (by rfl) T.set PyProof.Rows.boot_set (pa_cons
      (pe_lc (own := [("_law_line_here", 1)]) (g := gName 1) (tt := tTest (tOp rEq (tOp (rIxT K) (tVar 1) (tC (.int 0))) (tC (.str "if")))) (te := tSl (rSlT K) (tVar 1) (tPart (tC (.int 1))) (tPart (tC (.int 3)))) rfl scTd.nd (pi_tup (pv 0))
        (blkOk_by (N := ["_law_lines_here", "_law_line_here"]) (sc := defScope sTd) (by decide +kernel)) (fun _ _ _ _ _ => pg_name (i := 1) scTd.nd rfl (Or.inl rfl))
        (fun _ _ _ _ _ => pts_one (pt_cmpR op_eq (pe_ix ix_tup (pv 1) pe_int (fun _ _ => rfl)) pe_str (nomark _)))
        (fun _ _ _ _ _ => pe_slice sl_tup (pv 1) (po_some pe_int) (po_some pe_int))) pa_nil)) pa_nil)) pa_nil))), ?_⟩
    show tAscK K P w (tKeys K 0 1 (tOp rEq (tOp (rIxT K) (tVar 1) (tC (.int 0))) (tC (.str "if")))) (start ["_law_lines_here", "_law_line_here"] [.ref L]) H Q
    exact td_rd ["if"] rfl (by show 1 < 2; decide) hL few (by decide +kernel) (fun σ' H' q R' e hq z => ⟨_, e, q.1, _, _, _, rfl, rfl, hq, atI_nat (j := 0) (ln_word q.2), rfl, by rw [has_one]; exact z⟩) k
end
end Rd

namespace Rd
open PySem PySem.Spec PyProof.Rows L2 Tq Dn Dc Ox
def spRds (K : PySem.W.Frag) : Sp := fun vs H Q _ => ∃ (L : Addr) (rs : RowsL), vs = [.ref L] ∧ LinesAt K H L rs ∧ rs.length ≤ 16 ∧ ∀ H' D kvs, Same H H' → H D = none → H' D = some (.dK kvs) → ReadsD H' kvs (lnsOf rs) → Q (.ref D) H'
/-- what the dict holds behind these lines -/
structure Found (H : Hp) (d : Addr) (ls : List Ln) (kvs : List (Key × V)) (ts : List Str) : Prop where
  at_ : H d = some (.dK kvs)
  keys : kvs.map (·.1) = ts.map Sum.inr
  nd : ts.Nodup
  mem : ∀ t, t ∈ ts ↔ t ∈ (rps ls).map Prod.fst
  val : ∀ t ∈ ts, ∃ a, valV kvs (Sum.inr t) = some (.ref a) ∧ H a = some (.tup ((partsOf t ls).map V.str))
  len : ts.length ≤ ls.length
theorem rps_snoc (ls : List Ln) (l : Ln) : rps (ls ++ [l]) = rps ls ++ (rdOf l).toList := by
  unfold rps
  rw [List.filterMap_append]
  congr 1
theorem parts_snoc_eq (ls : List Ln) (t p : Str) : partsOf t (ls ++ [.read t p]) = partsOf t ls ++ [p] := by
  unfold partsOf
  rw [rps_snoc, List.filter_append, List.map_append]
  show _ ++ ([(t, p)].filter fun x => decide (x.1 = t)).map Prod.snd = _
  rw [List.filter_cons_of_pos (by simp)]; rfl
theorem parts_snoc_ne (ls : List Ln) {t t' : Str} (p : Str) (h : t ≠ t') : partsOf t' (ls ++ [.read t p]) = partsOf t' ls := by
  unfold partsOf
  rw [rps_snoc, List.filter_append, List.map_append]
  show _ ++ ([(t, p)].filter fun x => decide (x.1 = t')).map Prod.snd = _
  rw [List.filter_cons_of_neg (by simp [h])]; simp
theorem parts_none (ls : List Ln) {t : Str} (h : t ∉ (rps ls).map Prod.fst) : partsOf t ls = [] := by
  unfold partsOf
  rw [List.filter_eq_nil_iff.mpr]
  · rfl
  · intro x hx
    simp only [decide_eq_true_eq]
    intro e
    exact h (by rw [← e]; exact List.mem_map_of_mem hx)
theorem valV_none {kvs : List (Key × V)} {ts : List Str} (h : kvs.map (·.1) = ts.map Sum.inr) {t : Str} (ht : t ∉ ts) : valV kvs (Sum.inr t) = none := by
  cases e : valV kvs (Sum.inr t) with
  | none => rfl
  | some v =>
    have h1 := valV_any (Sum.inr t : Key) kvs
    rw [e] at h1
    obtain ⟨kv, hk, q⟩ := List.any_eq_true.mp h1
    have : (Sum.inr t : Key) ∈ kvs.map (·.1) := by rw [← of_decide_eq_true q]; exact List.mem_map_of_mem hk
    rw [h] at this
    obtain ⟨t', ht', e'⟩ := List.mem_map.mp this
    exact absurd (by rw [← Sum.inr.inj e']; exact ht') ht
theorem putK_keys {kvs : List (Key × V)} {ts : List Str} (h : kvs.map (·.1) = ts.map Sum.inr) (t : Str) (v : V) : (putK kvs (Sum.inr t) v).map (·.1) = (if t ∈ ts then ts else ts ++ [t]).map Sum.inr := by
  unfold putK
  have h1 := valV_any (Sum.inr t : Key) kvs
  by_cases ht : t ∈ ts
  · rw [if_pos ht, if_pos, List.map_map, ← h]
    · refine List.map_congr_left fun kv _ => ?_
      show (if kv.1 = Sum.inr t then (kv.1, v) else kv).1 = kv.1
      split <;> rfl
    · have : (Sum.inr t : Key) ∈ kvs.map (·.1) := by rw [h]; exact List.mem_map_of_mem ht
      obtain ⟨kv, hk, q⟩ := List.mem_map.mp this
      exact List.any_eq_true.mpr ⟨kv, hk, decide_eq_true q⟩
  · rw [if_neg ht, if_neg, List.map_append, List.map_append, h]; rfl
    rw [h1, valV_none h ht]; simp
theorem Found.put {H H' : Hp} {d u : Addr} {ls : List Ln} {kvs : List (Key × V)} {ts : List Str} {t p : Str} (F : Found H d ls kvs ts) (s : Same H H') (hu : H' u = some (.tup ((partsOf t ls ++ [p]).map V.str))) :
    ∃ ts', Found (upd H' d (.dK (putK kvs (Sum.inr t) (.ref u)))) d (ls ++ [.read t p]) (putK kvs (Sum.inr t) (.ref u)) ts' := by
  have off : ∀ a o, H' a = some (.tup o) → upd H' d (.dK (putK kvs (Sum.inr t) (.ref u))) a = some (.tup o) := fun a o q => by
    rw [upd_ne fun e => by subst e; rw [s _ _ F.at_] at q; cases q]; exact q
  have mem' : ∀ x, x ∈ (rps (ls ++ [.read t p])).map Prod.fst ↔ x ∈ (rps ls).map Prod.fst ∨ x = t := fun x => by
    rw [rps_snoc, List.map_append, List.mem_append]
    show _ ∨ x ∈ [t] ↔ _
    rw [List.mem_singleton]
  refine ⟨if t ∈ ts then ts else ts ++ [t], upd_same, putK_keys F.keys t _, ?_, fun x => ?_, fun x hx => ?_, ?_⟩
  · by_cases h : t ∈ ts
    · rw [if_pos h]; exact F.nd
    · rw [if_neg h]
      exact List.nodup_append.mpr ⟨F.nd, by simp, fun a ha b hb => by rw [List.mem_singleton.mp hb]; exact fun e => h (e ▸ ha)⟩
  · rw [mem', ← F.mem]
    by_cases h : t ∈ ts
    · rw [if_pos h]
      exact ⟨.inl, fun z => z.elim id fun e => e ▸ h⟩
    · rw [if_neg h, List.mem_append, List.mem_singleton]
  · by_cases e : x = t
    · subst e
      exact ⟨u, by rw [valV_put, if_pos rfl], by rw [parts_snoc_eq]; exact off _ _ hu⟩
    · have hx' : x ∈ ts := by
        by_cases h : t ∈ ts
        · rw [if_pos h] at hx; exact hx
        · rw [if_neg h] at hx
          exact (List.mem_append.mp hx).elim id fun z => absurd (List.mem_singleton.mp z) e
      obtain ⟨a, h1, h2⟩ := F.val x hx'
      exact ⟨a, by rw [valV_put, if_neg fun z => e (Sum.inr.inj z)]; exact h1, by rw [parts_snoc_ne ls p (fun z => e z.symm)]; exact off _ _ (s _ _ h2)⟩
  · rw [List.length_append]
    have := F.len
    by_cases h : t ∈ ts
    · rw [if_pos h]; simp; omega
    · rw [if_neg h]; simp; omega
theorem Found.skip {H H' : Hp} {d : Addr} {ls : List Ln} {kvs : List (Key × V)} {ts : List Str} {l : Ln} (F : Found H d ls kvs ts) (s : Same H H') (h : l.word ≠ "read") : Found H' d (ls ++ [l]) kvs ts := by
  have e : rps (ls ++ [l]) = rps ls := by rw [rps_snoc, rdOf_none h]; simp
  have ep : ∀ t, partsOf t (ls ++ [l]) = partsOf t ls := fun t => by unfold partsOf; rw [e]
  exact ⟨s _ _ F.at_, F.keys, F.nd, fun t => by rw [e]; exact F.mem t, fun t ht => let ⟨a, h1, h2⟩ := F.val t ht; ⟨a, h1, by rw [ep]; exact s _ _ h2⟩, by rw [List.length_append]; have := F.len; omega⟩
theorem merge_new : ∀ (es : List (Str × Addr)) (acc : List (Str × Addr)), ((acc ++ es).map Prod.fst).Nodup → mergeK (acc.map prE) (es.map prE) = (acc ++ es).map prE
  | [], acc, _ => by rw [List.append_nil]; rfl
  | e :: es, acc, h => by
    have h2 : ((acc ++ [e]) ++ es) = acc ++ e :: es := by rw [List.append_assoc]; rfl
    have ih := merge_new es (acc ++ [e]) (by rw [h2]; exact h)
    rw [h2] at ih
    rw [← ih]
    show mergeK (putK (acc.map prE) (Sum.inr e.1) (V.ref e.2)) (es.map prE) = _
    rw [put_new, List.map_append]; rfl
    rw [List.map_append, List.map_cons] at h
    intro z
    exact (List.nodup_append.mp h).2.2 _ z _ List.mem_cons_self rfl
section
variable {P : Program} {w : World} {K : PySem.W.Frag} {mg : Str → Option Value} {base : Heap}
theorem scRds : FnScope ["_law_lines_here", "_law_found", "_law_line_here", "_law_table"] ["_law_lines_here"] (defScope sRds) := ⟨rfl, rfl, rfl, by decide +kernel, rfl, by decide +kernel, by decide +kernel⟩
theorem ok_rds {f : Addr} {fd : FuncData} (F : Fun K "_law_readings" "_law_readings" sRds f fd) (T : TxM K mg) : FnOk P w K mg base CX0 1 f fd ["_law_lines_here"] (spRds K) := by
  refine F.ok scRds (fun vs H Q E h => ?_) (fun cdv A outer s H vs Q E hr h => ?_)
  · obtain ⟨L, rs, rfl, _⟩ := h; rfl
  · obtain ⟨L, rs, rfl, hL, few, k⟩ := h
    have hu := hu_of hr
    refine ⟨_, pss_cons (ps_set (i := 1) scRds.nd rfl (Or.inr rfl) pe_dnewK)
      (pss_cons (ps_for PassesOwn.never rfl (pi_tup (pv 0)) (pg_name (i := 2) scRds.nd rfl (Or.inl rfl))
        (pss_one (ps_if (pt_cmpR op_eq (pe_ix ix_tup (pv 2) pe_int (fun _ _ => rfl)) pe_str (nomark _))
          (pss_one (ps_dput hu (pv 1) (pe_ix ix_tup (pv 2) pe_int (fun _ _ => rfl)) (pe_op op_catA (pe_dget2 hu (pv 1) (pe_ix ix_tup (pv 2) pe_int (fun _ _ => rfl)) (pe_tup pa_nil) ⟨rfl, by rfl, by rfl, by rfl⟩)
            (pe_tup (pa_cons (pe_ix ix_tup (pv 2) pe_int (fun _ _ => rfl)) pa_nil))) rfl)) pss_nil)))
      (pss_one (ps_ret (pe_callTy (call_dictP rfl) (by rfl) T.dict (by decide +kernel) (pa_cons (pe_lc (own := [("_law_table", 3)]) (g := gName 3) (tt := tYes) rfl scRds.nd
          (pi_list (pe_callB (call_sortedD rfl) (by rfl) T.sorted PyProof.Rows.boot_sorted (pa_cons (pv 1) pa_nil)))
          (blkOk_by (N := ["_law_lines_here", "_law_found", "_law_line_here", "_law_table"]) (sc := defScope sRds) (by decide +kernel)) (fun _ _ _ _ _ => pg_name (i := 3) scRds.nd rfl (Or.inl rfl)) (fun _ _ _ _ _ => pts_nil)
          (fun _ _ _ _ _ => pe_tup (pa_cons (pv 3) (pa_cons (pe_dget hu (pv 1) (pv 3) (fun _ _ => rfl)) pa_nil)))) pa_nil))))), ?_⟩
    intro d nd
    have sd := same_new (o := HO.dK []) nd
    have hd0 : upd H d (HO.dK []) d = some (.dK []) := upd_same
    generalize upd H d (HO.dK []) = H1 at sd hd0 ⊢
    refine ⟨_, rfl, L, rfl, ⟨_, sqT_up hL.1 sd⟩, ?_⟩
    refine for_it walk_tup (fun i σ H' => σ[0]? = some (some (V.ref L)) ∧ σ[1]? = some (some (V.ref d)) ∧ σ.length = 4 ∧ Same H H' ∧ ∃ kvs ts, Found H' d (lnsOf (rs.take i)) kvs ts)
      ⟨rfl, rfl, rfl, sd, [], [], hd0, rfl, .nil, fun t => by simp [rps], (fun t ht => nomatch ht), Nat.le_refl _⟩ (fun i σ H' _ z => sqT_up hL.1 z.2.2.2.1) ?_ ?_
    · rintro i x σ H2' H2 hi ⟨h0, h1, hl, s2, kvs, ts, Fd⟩ ⟨rfl, hx⟩
      rw [List.getElem?_map] at hx
      obtain ⟨q, hq, rfl⟩ := Option.map_eq_some_iff.mp hx
      have hq2 := sqT_up (hL.2 q (List.mem_of_getElem? hq)) s2
      have nx : lnsOf (rs.take (i + 1)) = lnsOf (rs.take i) ++ [q.2] := by show (rs.take (i + 1)).map Prod.snd = _; rw [List.take_add_one, hq, List.map_append]; rfl
      have g2 : (σ.set 2 (some (V.ref q.1)))[2]? = some (some (V.ref q.1)) := List.getElem?_set_self (by omega)
      have g1 : (σ.set 2 (some (V.ref q.1)))[1]? = some (some (V.ref d)) := by rw [List.getElem?_set_ne (by decide)]; exact h1
      have g0 : (σ.set 2 (some (V.ref q.1)))[0]? = some (some (V.ref L)) := by rw [List.getElem?_set_ne (by decide)]; exact h0
      have gl : (σ.set 2 (some (V.ref q.1))).length = 4 := by rw [List.length_set]; exact hl
      show (tIfS _ _ _) _ (σ.set 2 (some (V.ref q.1))) _
      refine ⟨_, g2, q.1, _, _, _, rfl, rfl, hq2, atI_nat (j := 0) (ln_word q.2), rfl, _, rfl, ite2 (fun c => ?_) (fun c => ?_)⟩
      · have cw : q.2.word = "read" := V.str.inj (of_decide_eq_true c)
        obtain ⟨t, p, eq⟩ := rp_read cw
        have v1 : q.2.vs[1]? = some (.str t) := by rw [eq]; rfl
        have v2 : q.2.vs[2]? = some (.str p) := by rw [eq]; rfl
        have kl : kvs.length = ts.length := by have := congrArg List.length Fd.keys; simpa using this
        have tl : ts.length ≤ i := by have := Fd.len; rw [show (lnsOf (rs.take i)).length = (rs.take i).length from List.length_map _, List.length_take] at this; omega
        have il : i < rs.length := (List.getElem?_eq_some_iff.mp hq).1
        have fin : ∀ (u : Addr) (H4 : Hp), Same H2 H4 → H4 u = some (.tup ((partsOf t (lnsOf (rs.take i)) ++ [p]).map V.str)) →
            ∃ v, (σ.set 2 (some (V.ref q.1)))[1]? = some (some v) ∧ ∃ w', (σ.set 2 (some (V.ref q.1)))[2]? = some (some w') ∧ rIxT K w' (.int 1) H4 fun y H5 => ∃ a H6, v = .ref a ∧ DPut H5 a y (.ref u) H6 ∧
              ((σ.set 2 (some (V.ref q.1)))[0]? = some (some (V.ref L)) ∧ (σ.set 2 (some (V.ref q.1)))[1]? = some (some (V.ref d)) ∧ (σ.set 2 (some (V.ref q.1))).length = 4 ∧ Same H H6 ∧ ∃ kvs ts, Found H6 d (lnsOf (rs.take (i + 1))) kvs ts) := fun u H4 s4 eu => by
          refine ⟨_, g1, _, g2, q.1, _, _, .str t, rfl, rfl, sqT_up hq2 s4, atI_nat (j := 1) v1, d, _, rfl, DPut.k (k := Sum.inr t) (s4 _ _ Fd.at_) (by rw [kl, sizeLine_eq]; omega), g0, g1, gl, same_to nd (s2.trans s4), putK kvs (Sum.inr t) (.ref u), ?_⟩
          obtain ⟨ts', F'⟩ := Fd.put s4 eu
          rw [nx, eq]
          exact ⟨ts', F'⟩
        refine ⟨_, g1, d, rfl, .inl ⟨kvs, .inl Fd.at_⟩, _, g2, q.1, _, _, .str t, rfl, rfl, hq2, atI_nat (j := 1) v1, (by show 0 ≤ sizeLine; decide), fun t0 n0 => ?_⟩
        have s0 := same_new (o := HO.tup []) n0
        refine ⟨_, DGet.k (k := Sum.inr t) (s0 _ _ Fd.at_), _, g2, q.1, _, _, .str p, rfl, rfl, sqT_up hq2 s0, atI_nat (j := 2) v2, (by show 1 ≤ sizeLine; decide), fun t1 n1 => ?_⟩
        have s1 := same_new (o := HO.tup [V.str p]) n1
        have s01 := s0.trans s1
        have cat : ∀ (a : Addr) (xs : List Str), upd (upd H2 t0 (HO.tup [])) t1 (HO.tup [V.str p]) a = some (.tup (xs.map V.str)) → xs = partsOf t (lnsOf (rs.take i)) → xs.length ≤ 16 →
            rCatA K (.ref a) (.ref t1) (upd (upd H2 t0 (HO.tup [])) t1 (HO.tup [V.str p])) fun v H4 => ∃ u, v = .ref u ∧ Same H2 H4 ∧ H4 u = some (.tup ((partsOf t (lnsOf (rs.take i)) ++ [p]).map V.str)) := fun a xs ha ex hz => by
          refine ⟨a, t1, xs.map V.str, [.str p], rfl, rfl, SqT.of ha, SqT.of upd_same, by rw [List.length_map, sizeLine_eq]; show xs.length + 1 ≤ _; omega, fun e => ⟨t1, rfl, s01, ?_⟩, (fun _ e => nomatch e), fun _ _ u nu => ⟨u, rfl, s01.trans (same_new nu), ?_⟩⟩
          · have : xs = [] := by cases xs <;> simp_all
            rw [← ex, this]; exact upd_same
          · rw [upd_same, ← ex, List.map_append]; rfl
        have plen : (partsOf t (lnsOf (rs.take i))).length ≤ 16 := by
          unfold partsOf rps
          rw [List.length_map]
          refine Nat.le_trans (List.length_filter_le _ _) (Nat.le_trans (List.length_filterMap_le _ _) ?_)
          rw [List.length_map, List.length_take]; omega
        have go : ∀ z : V, rCatA K z (.ref t1) (upd (upd H2 t0 (HO.tup [])) t1 (HO.tup [V.str p])) (fun v H4 => ∃ u, v = .ref u ∧ Same H2 H4 ∧ H4 u = some (.tup ((partsOf t (lnsOf (rs.take i)) ++ [p]).map V.str))) →
            rCatA K z (.ref t1) (upd (upd H2 t0 (HO.tup [])) t1 (HO.tup [V.str p])) fun v H4 => ∃ v', (σ.set 2 (some (V.ref q.1)))[1]? = some (some v') ∧ ∃ w', (σ.set 2 (some (V.ref q.1)))[2]? = some (some w') ∧ rIxT K w' (.int 1) H4 fun y H5 => ∃ a H6, v' = .ref a ∧ DPut H5 a y v H6 ∧
              ((σ.set 2 (some (V.ref q.1)))[0]? = some (some (V.ref L)) ∧ (σ.set 2 (some (V.ref q.1)))[1]? = some (some (V.ref d)) ∧ (σ.set 2 (some (V.ref q.1))).length = 4 ∧ Same H H6 ∧ ∃ kvs ts, Found H6 d (lnsOf (rs.take (i + 1))) kvs ts) := fun z ⟨a, b, xs, ys, e1, e2, h1, h2, h3, q0, q1, q2⟩ => by
          refine ⟨a, b, xs, ys, e1, e2, h1, h2, h3, fun e => ?_, fun e e' => ?_, fun e e' u nu => ?_⟩
          · obtain ⟨u, eu, z1, z2⟩ := q0 e; rw [eu]; exact fin u _ z1 z2
          · obtain ⟨u, eu, z1, z2⟩ := q1 e e'; rw [eu]; exact fin u _ z1 z2
          · obtain ⟨u', eu, z1, z2⟩ := q2 e e' u nu; rw [eu]; exact fin u' _ z1 z2
        refine go _ ?_
        by_cases ht : t ∈ ts
        · obtain ⟨a, e1, e2⟩ := Fd.val t ht
          rw [e1]
          exact cat a _ (s01 _ _ e2) rfl plen
        · rw [valV_none Fd.keys ht]
          exact cat t0 [] (s1 _ _ upd_same) (parts_none _ (fun z => ht ((Fd.mem t).mpr z))).symm (by decide)
      · have cw : q.2.word ≠ "read" := fun z => c (by rw [z]; simp)
        refine ⟨g0, g1, gl, s2, kvs, ts, ?_⟩
        rw [nx]
        exact Fd.skip (Same.refl _) cw
    · rintro σ H2 ⟨h0, h1, hl, s2, kvs, ts, Fd⟩
      rw [List.length_map, List.take_length] at Fd
      have tl : ts.length ≤ 16 := by have := Fd.len; rw [show (lnsOf rs).length = rs.length from List.length_map _] at this; omega
      refine ⟨_, h1, d, kvs, ts, rfl, .inl Fd.at_, Fd.keys, by omega, fun ys p pm so np => ?_⟩
      have sp := same_new (o := HO.lst (ys.map V.str)) np
      have hp : upd H2 p (HO.lst (ys.map V.str)) p = some (.lst (ys.map V.str)) := upd_same
      generalize upd H2 p (HO.lst (ys.map V.str)) = H3 at sp hp ⊢
      refine ⟨p, rfl, ⟨_, SqL.of hp⟩, fun D hD => ?_⟩
      have off : Off D (fun i acc H' => ∃ es : List (Str × Addr × Addr), acc = (es.map fun e => V.ref e.2.2) ∧ es.map Prod.fst = ys.take i ∧ ∀ e ∈ es, H' e.2.2 = some (.tup [.str e.1, .ref e.2.1]) ∧ H' e.2.1 = some (.tup ((partsOf e.1 (lnsOf rs)).map V.str))) :=
        fun i acc l H5 H6 e kp ⟨es, z1, z2, z3⟩ => ⟨es, z1, z2, fun x hx => ⟨kp _ _ (fun z => by have := (z3 x hx).1; rw [z, e] at this; cases this) (z3 x hx).1, kp _ _ (fun z => by have := (z3 x hx).2; rw [z, e] at this; cases this) (z3 x hx).2⟩⟩
      refine lc_fil walk_list hD (fun i acc H' => ∃ es : List (Str × Addr × Addr), acc = (es.map fun e => V.ref e.2.2) ∧ es.map Prod.fst = ys.take i ∧ ∀ e ∈ es, H' e.2.2 = some (.tup [.str e.1, .ref e.2.1]) ∧ H' e.2.1 = some (.tup ((partsOf e.1 (lnsOf rs)).map V.str)))
        ⟨[], rfl, rfl, fun e he => nomatch he⟩ (fun H' s' => sqL_up (SqL.of hp) s') ?_ ?_
      · rintro i v acc H4 H5 hi s4 e4 ⟨es, rfl, ee, hes⟩ ⟨rfl, hv⟩
        rw [List.getElem?_map] at hv
        obtain ⟨t, ht, rfl⟩ := Option.map_eq_some_iff.mp hv
        have htm : t ∈ ts := pm.mem_iff.mp (List.mem_of_getElem? ht)
        obtain ⟨a, e1, e2⟩ := Fd.val t htm
        have w3 : ((wipe σ [3]).set 3 (some (V.str t)))[3]? = some (some (V.str t)) := List.getElem?_set_self (by rw [wipe_length]; omega)
        have w1 : ((wipe σ [3]).set 3 (some (V.str t)))[1]? = some (some (V.ref d)) := by
          rw [List.getElem?_set_ne (by decide)]
          show (σ.set 3 none)[1]? = _
          rw [List.getElem?_set_ne (by decide)]; exact h1
        have s34 := sp.trans s4
        refine ⟨?_, tt_yes ?_⟩
        · show ((σ.set 3 none).set 3 (some (V.str t))).set 3 none = σ.set 3 none
          rw [List.set_set, List.set_set]
        refine ⟨_, w3, _, w1, _, w3, d, .ref a, rfl, by have := DGet.k (k := (Sum.inr t : Key)) (s34 _ _ Fd.at_); rw [e1] at this; exact this, (by show 2 ≤ sizeLine; decide), fun u nu => ?_⟩
        have su := same_new (o := HO.tup [V.str t, V.ref a]) nu
        have il := congrArg List.length ee
        rw [List.length_map, List.length_take] at il
        have i2 := (List.getElem?_eq_some_iff.mp ht).1
        have yl := pm.length_eq
        refine put_of hD off s4 e4 su (by rw [List.length_map, sizeLine_eq]; omega) ⟨es ++ [(t, a, u)], by rw [List.map_append]; rfl, by rw [List.map_append, ee, List.take_add_one, ht]; rfl, fun x hx => ?_⟩
        rcases List.mem_append.mp hx with z | z
        · exact ⟨su _ _ (hes x z).1, su _ _ (hes x z).2⟩
        · rw [List.mem_singleton.mp z]; exact ⟨upd_same, su _ _ (s34 _ _ e2)⟩
      · rintro acc H4 s4 e4 ⟨es, rfl, ee, hes⟩
        rw [List.length_map, List.take_length] at ee
        have ndy : ys.Nodup := pm.nodup_iff.mpr Fd.nd
        have pr : ∀ es' : List (Str × Addr × Addr), (∀ e ∈ es', H4 e.2.2 = some (.tup [.str e.1, .ref e.2.1])) → Paired (fun p kv => SqT K H4 p [kV kv.1, kv.2]) (es'.map fun e => e.2.2) ((es'.map fun e => (e.1, e.2.1)).map prE) := fun es' => by
          induction es' with
          | nil => exact fun _ => .nil
          | cons e es' ih => exact fun h => .cons (SqT.of (h e List.mem_cons_self)) (ih fun x hx => h x (.tail _ hx))
        refine ⟨D, es.map (fun e : Str × Addr × Addr => e.2.2), (es.map (fun e : Str × Addr × Addr => ((e.1, e.2.1) : Str × Addr))).map prE, rfl, SqL.of (by rw [e4, List.map_map]; rfl), pr es fun e he => (hes e he).1, fun D' nD' => ?_⟩
        have em : (es.map fun e => (e.1, e.2.1)).map Prod.fst = ys := by rw [List.map_map, ← ee]; rfl
        have mg := merge_new (es.map fun e => (e.1, e.2.1)) [] (by rw [List.nil_append, em]; exact ndy)
        rw [show mergeK [] ((es.map fun e => (e.1, e.2.1)).map prE) = (es.map fun e => (e.1, e.2.1)).map prE from mg]
        have sall := (s2.trans sp).trans s4
        have sD := same_new (o := HO.dK ((es.map fun e => (e.1, e.2.1)).map prE)) nD'
        refine k _ D' _ (sall.trans sD) (sall.free nD') upd_same ⟨_, rfl, ⟨by rw [em]; exact rise_strict so ndy, fun x => by rw [em, pm.mem_iff]; exact Fd.mem x⟩, fun e he => ?_⟩
        obtain ⟨x, hx, rfl⟩ := List.mem_map.mp he
        exact sD _ _ (hes x hx).2
end
end Rd

namespace Rd
open PySem PySem.Spec PyProof.Rows L2 Tq Dn Dc Ox
abbrev sTold : Stmt := top 54
abbrev sNear : Stmt := top 55
theorem takesN0 {X : Cx} : L2N.Takes X (fun _ _ _ _ => False) := fun _ _ x => by
  obtain ⟨_, _, _, _, _, _, _, _, _, _, _, _, _, _, _, _, z⟩ := x; exact z.elim
theorem plainRC {CX : CXT} {P : Program} {w : World} {K : PySem.W.Frag} {mg : Str → Option Value} {base : Heap} {k : Nat} {f : Addr} {fd : FuncData} {ps : List Str} {sp : Sp} (F : FnOk P w K mg base CX k f fd ps sp) (hb : Binds K fd ps []) : FnR P w K mg base CX k f sp :=
  (F.raw hb .nil).imp fun vs H Q E h => by rw [List.append_nil]; exact h
def spTold (K : PySem.W.Frag) (C : Addr) : Sp := fun vs H Q _ => ∃ (r : Addr) (rs : RowsL) (v : V) (d : PyData), vs = [.ref r, v] ∧ RdAt K C H r rs ∧ Dp K H v d ∧
  ((∃ n q, v = .int ((n : Nat) : Int) ∧ rs[n]? = some q ∧ Q (.ref q.1) H) ∨ (numD d ((rs.length : Int) - 1) = false ∧ ∃ t, Shows H v t ∧ ∀ H' l, Same H H' → H l = none → H' l = some (.lst [.str "number", .str t]) → Q (.ref l) H'))
/-- the subscript of a reader, the errors of it -/
structure TxT (K : PySem.W.Frag) (mg : Str → Option Value) (P : Program) (w : World) (base : Heap) (C CN : Addr) : Prop extends TxG K mg P w base C CN where
  get : ∃ g, Dun K C "__getitem__" g ∧ PySem.W.fnIn K g = true ∧ FnR P w K mg base (L2N.CX P w) 5 g (spGet K C CN)
  em : PySem.W.exmOne K (.ref CN) (.ref CN) = some true
  sysm : ∃ o, base.get? sysModules = some o
section
variable {P : Program} {w : World} {K : PySem.W.Frag} {mg : Str → Option Value} {base : Heap}
theorem scTo : FnScope ["_law_reader", "_law_at", "e"] ["_law_reader", "_law_at"] (defScope sTold) := ⟨rfl, rfl, rfl, by decide +kernel, rfl, by decide +kernel, by decide +kernel⟩
def tSuT (CN : Addr) : Addr → Value → Option Addr → TS := fun a cls d => tRet (tLst (tCons (tC (.str "number")) (tCons (tCB rShow (tCons (tXf a cls d CN "value" (tVar 2)) tNil)) tNil)))
theorem xfcN {CN J : Addr} {f qual : Str} {B newId : String} {bm : List Value} (T : PySem.Mk0.OTxt K CN J f qual B newId bm) : XfC K CN := ⟨T.ga, T.gg, T.exC, T.hdC⟩
theorem ok_told {C CN f : Addr} {fd : FuncData} (F : Fun K "_law_told" "_law_told" sTold f fd) (T : TxT K mg P w base C CN) : FnG P w K mg base 7 f fd ["_law_reader", "_law_at"] (spTold K C) := by
  obtain ⟨g, Dg, fg, GG⟩ := T.get
  obtain ⟨J, oN⟩ := T.oN
  refine F.okG scTo (fun vs H Q E h => ?_) (fun cdv A outer s H vs Q E hgd hr h => ?_)
  · obtain ⟨r, rs, v, d, rfl, _⟩ := h; rfl
  · obtain ⟨r, rs, v, d, rfl, hR, hd, k⟩ := h
    have hu := hr.units
    have hsm := T.sysm
    refine ⟨_, pss_one (L2N.ps_try_as (i := 2) (tb := fun W => tRet (tSubO C (spGet K C CN) (WE W) (tVar 0) (tVar 1))) (ts := tSuT CN) (Wout := fun _ _ _ _ => False) rfl rfl scTo.nd rfl rfl ⟨rfl, by decide, .inl T.gN⟩ takesN0
        (fun W pn xe tk _ => pss_one (ps_ret (by exact (pe_subO Dg fg GG hr (fun σ => L2N.passAt tk σ) (pv 0) (pv 1) (fun _ _ => rfl)))))
        (fun a oe cls d pn hz hf => pss_one (ps_ret (by exact (pe_lst (pa_cons pe_str (pa_cons (pe_callB (call_show hgd hu hsm) (by rfl) T.repr PyProof.Rows.boot_repr (by exact (pa_cons (pe_xf (xfcN oN) oN.noN hz.zc hf (pv 2)) pa_nil))) pa_nil))))))), ?_⟩
    obtain ⟨dx, L, TT, ps, e, _⟩ := id hR
    refine ⟨_, rfl, _, rfl, r, dx, _, rfl, e, r, rs, v, d, rfl, hR, hd, ?_⟩
    rcases k with ⟨n, q, rfl, hq, k⟩ | ⟨hn, t, hs, k⟩
    · exact .inl ⟨n, q, rfl, hq, k⟩
    · refine .inr ⟨hn, fun dd nd => ⟨true, T.em, fun _ a ha => ?_, fun q => nomatch q⟩⟩
      have sd := same_new (o := HO.xd [("value", v)]) nd
      refine ⟨_, rfl, rfl, rfl, dd, _, v, rfl, upd_same, (by simp [List.lookup]), v, t, rfl, hs.up sd, (by show 2 ≤ sizeLine; decide), fun l nl => ?_⟩
      exact k _ l (sd.trans (same_new nl)) (sd.free nl) upd_same
end
end Rd

namespace Rd
open PySem PySem.Spec PyProof.Rows L2 Tq Dn Dc Ox
/-- values near lines -/
def nearD (rs : RowsL) : List PyData := [PyData.none, PyData.int 0, PyData.str "go", PyData.tuple [PyData.str "go"], PyData.tuple [PyData.str "go", PyData.bool true], PyData.tuple [PyData.str "go", PyData.bool false], PyData.list [PyData.str "go", PyData.int 0], PyData.tuple [PyData.str "go", PyData.int 0, PyData.int 0], PyData.tuple [PyData.str "go", PyData.int ((rs.length : Int) + 1)], PyData.tuple [PyData.str "go", PyData.int (-1)], PyData.tuple [PyData.str "read", PyData.str "item"], PyData.tuple [PyData.str "read", PyData.str "item", PyData.str "live", PyData.int 0], PyData.tuple [PyData.str "Read", PyData.str "item", PyData.str "live"], PyData.tuple [PyData.str "go", PyData.none], PyData.tuple [PyData.str "if", PyData.str "item", PyData.str "live", PyData.bool true], PyData.tuple [PyData.str "if", PyData.str "item", PyData.str "live", PyData.bool false], PyData.tuple [PyData.str "look", PyData.str "item", (PyData.list [PyData.str "live"])], dls (lnsOf rs), PyData.tuple [], PyData.tuple [(PyData.tuple [PyData.str "go", PyData.int 0])], PyData.tuple [PyData.str "read", PyData.str "item", PyData.str "gone"], PyData.tuple [PyData.str "look", PyData.str "gone", PyData.str "live"], PyData.tuple [PyData.str "read", PyData.int 1, PyData.str "live"], PyData.tuple [PyData.str "go", PyData.str "0"], PyData.list [], PyData.bool true]
/-- the heap without the object at p -/
def hid (p : Addr) (H : Hp) : Hp := fun b => if b = p then none else H b
theorem hid_at {p a : Addr} {H : Hp} {o : HO} (h : H a = some o) (e : a ≠ p) : hid p H a = some o := by unfold hid; rw [if_neg e]; exact h
theorem hid_up {p : Addr} {H H' : Hp} (s : Same H H') : Same (hid p H) (hid p H') := fun b o h => by
  unfold hid at h ⊢
  by_cases e : b = p
  · rw [if_pos e] at h; cases h
  · rw [if_neg e] at h ⊢; exact s b o h
theorem hid_keep {p : Addr} {H H' : Hp} (k : Keep p H H') : Same (hid p H) H' := fun b o h => by
  unfold hid at h
  by_cases e : b = p
  · rw [if_pos e] at h; cases h
  · rw [if_neg e] at h; exact k b o e h
theorem seq_hid {K : PySem.W.Frag} {p a : Addr} {H : Hp} {xs : List V} (h : SqT K H a xs) (d : DiceAt H p) : SqT K (hid p H) a xs := by
  obtain ⟨x, y, z, hp, _⟩ := d
  rcases h with (h | ⟨o, h⟩) | h
  · exact .inl (.inl (hid_at h fun e => by subst e; rw [hp] at h; cases h))
  · exact .inl (.inr ⟨o, hid_at h fun e => by subst e; rw [hp] at h; cases h⟩)
  · exact .inr h
theorem lines_hid {K : PySem.W.Frag} {p L : Addr} {H : Hp} {rs : RowsL} (h : LinesAt K H L rs) (d : DiceAt H p) : LinesAt K (hid p H) L rs := ⟨seq_hid h.1 d, fun r hr => seq_hid (h.2 r hr) d⟩
def Odd (K : PySem.W.Frag) (H : Hp) (rs : RowsL) (v : V) : Prop := (∃ d, d ∈ nearD rs ∧ Dp K H v d) ∨ ∃ a, v = .ref a ∧ H a = some (.dK [])
theorem Odd.up {K : PySem.W.Frag} {H H' : Hp} {rs : RowsL} {v : V} (h : Odd K H rs v) (s : Same H H') : Odd K H' rs v :=
  h.imp (fun ⟨d, m, x⟩ => ⟨d, m, dp_up s x⟩) fun ⟨a, e, x⟩ => ⟨a, e, s _ _ x⟩
def AllOdd (K : PySem.W.Frag) (p : Addr) (H : Hp) (rs : RowsL) (xs : List V) : Prop := ∀ x ∈ xs, Odd K (hid p H) rs x
theorem AllOdd.up {K : PySem.W.Frag} {p : Addr} {H H' : Hp} {rs : RowsL} {xs : List V} (h : AllOdd K p H rs xs) (s : Same H H') : AllOdd K p H' rs xs := fun x hx => (h x hx).up (hid_up s)
theorem AllOdd.app {K : PySem.W.Frag} {p : Addr} {H : Hp} {rs : RowsL} {xs ys : List V} (h : AllOdd K p H rs xs) (g : AllOdd K p H rs ys) : AllOdd K p H rs (xs ++ ys) := fun x hx => (List.mem_append.mp hx).elim (h x) (g x)
def spNear (K : PySem.W.Frag) : Sp := fun vs H Q _ => ∃ (p L : Addr) (rs : RowsL), vs = [.ref p, .ref L] ∧ DiceAt H p ∧ LinesAt K H L rs ∧ ∀ v H', Keep p H H' → DiceAt H' p → Odd K H' rs v → Q v H'
theorem len_cast {n : Nat} {xs : RowsL} (h : n = xs.length) : True := trivial
section
variable {P : Program} {w : World} {K : PySem.W.Frag} {mg : Str → Option Value} {base : Heap}
theorem scNr : FnScope ["_law_dice_here", "_law_lines_here", "_law_size", "_law_some"] ["_law_dice_here", "_law_lines_here"] (defScope sNear) := ⟨rfl, rfl, rfl, by decide +kernel, rfl, by decide +kernel, by decide +kernel⟩
theorem ok_near {f : Addr} {fd : FuncData} (F : Fun K "_law_near" "_law_near" sNear f fd) (T : TxE2 K mg P w base) : FnOk P w K mg base CX0 3 f fd ["_law_dice_here", "_law_lines_here"] (spNear K) := by
  obtain ⟨fO, fdO, mO, kO, bO, GO⟩ := T.one
  refine F.ok scNr (fun vs H Q E h => ?_) (fun cdv A outer s H0 vs Q E hr h => ?_)
  · obtain ⟨p, L, rs, rfl, _⟩ := h; rfl
  · obtain ⟨p, L, rs, rfl, di, hL, k⟩ := h
    refine ⟨_, pss_cons (ps_set (i := 2) scNr.nd rfl (Or.inl rfl) (pe_callB call_lenT (by rfl) T.len PySem.boot_len (pa_cons (pv 1) pa_nil)))
      (pss_cons (ps_set (i := 3) scNr.nd rfl (Or.inl rfl) (pe_lst (pa_cons pe_non (pa_cons pe_int (pa_cons pe_str (pa_cons (pe_tup (pa_cons pe_str pa_nil)) (pa_cons (pe_tup (pa_cons pe_str (pa_cons pe_bl pa_nil))) (pa_cons (pe_tup (pa_cons pe_str (pa_cons pe_bl pa_nil))) (pa_cons (pe_lst (pa_cons pe_str (pa_cons pe_int pa_nil))) (pa_cons (pe_tup (pa_cons pe_str (pa_cons pe_int (pa_cons pe_int pa_nil)))) (pa_cons (pe_tup (pa_cons pe_str (pa_cons (pe_op op_add (pv 2) pe_int) pa_nil))) (pa_cons (pe_tup (pa_cons pe_str (pa_cons (pe_un un_neg pe_int) pa_nil))) pa_nil))))))))))))
      (pss_cons (ps_set (i := 3) scNr.nd rfl (Or.inl rfl) (pe_op op_cat (pv 3) (pe_lst (pa_cons (pe_tup (pa_cons pe_str (pa_cons pe_str pa_nil))) (pa_cons (pe_tup (pa_cons pe_str (pa_cons pe_str (pa_cons pe_str (pa_cons pe_int pa_nil))))) (pa_cons (pe_tup (pa_cons pe_str (pa_cons pe_str (pa_cons pe_str pa_nil)))) (pa_cons (pe_tup (pa_cons pe_str (pa_cons pe_non pa_nil))) pa_nil)))))))
      (pss_cons (ps_set (i := 3) scNr.nd rfl (Or.inl rfl) (pe_op op_cat (pv 3) (pe_lst (pa_cons (pe_tup (pa_cons pe_str (pa_cons pe_str (pa_cons pe_str (pa_cons pe_bl pa_nil))))) (pa_cons (pe_tup (pa_cons pe_str (pa_cons pe_str (pa_cons pe_str (pa_cons pe_bl pa_nil))))) (pa_cons (pe_tup (pa_cons pe_str (pa_cons pe_str (pa_cons (pe_lst (pa_cons pe_str pa_nil)) pa_nil)))) pa_nil))))))
      (pss_cons (ps_set (i := 3) scNr.nd rfl (Or.inl rfl) (pe_op op_cat (pv 3) (pe_lst (pa_cons (pv 1) (pa_cons (pe_tup pa_nil) (pa_cons pe_dnewK (pa_cons (pe_tup (pa_cons (pe_tup (pa_cons pe_str (pa_cons pe_int pa_nil))) pa_nil)) pa_nil)))))))
      (pss_cons (ps_set (i := 3) scNr.nd rfl (Or.inl rfl) (pe_op op_cat (pv 3) (pe_lst (pa_cons (pe_tup (pa_cons pe_str (pa_cons pe_str (pa_cons pe_str pa_nil)))) (pa_cons (pe_tup (pa_cons pe_str (pa_cons pe_str (pa_cons pe_str pa_nil)))) (pa_cons (pe_tup (pa_cons pe_str (pa_cons pe_int (pa_cons pe_str pa_nil)))) (pa_cons (pe_tup (pa_cons pe_str (pa_cons pe_str pa_nil))) (pa_cons (pe_lst pa_nil) (pa_cons pe_bl pa_nil)))))))))
      (pss_one (ps_ret (pe_call GO hr (by rfl) mO kO bO .nil pass0 (pa_cons (pv 0) (pa_cons (pv 3) pa_nil)))))))))), ?_⟩
    refine ⟨_, rfl, L, _, rfl, hL.1, ?_⟩
    rw [List.length_map]
    have kp : Same H0 H0 := Same.refl _
    refine ⟨(by show 1 ≤ sizeLine; decide), fun t1 n1 => ?_⟩
    have q := same_new (o := HO.tup [V.str "go"]) n1
    have h1 : upd H0 t1 (HO.tup [V.str "go"]) t1 = some (HO.tup [V.str "go"]) := upd_same
    have e1 := dice_ne di n1
    have di := dice_upd (o := HO.tup [V.str "go"]) di e1
    generalize upd H0 t1 (HO.tup [V.str "go"]) = H1 at q h1 di ⊢
    have hL := hL.up q
    have kp := kp.trans q
    refine ⟨(by show 2 ≤ sizeLine; decide), fun t2 n2 => ?_⟩
    have q := same_new (o := HO.tup [V.str "go", V.bl true]) n2
    have h2 : upd H1 t2 (HO.tup [V.str "go", V.bl true]) t2 = some (HO.tup [V.str "go", V.bl true]) := upd_same
    have e2 := dice_ne di n2
    have di := dice_upd (o := HO.tup [V.str "go", V.bl true]) di e2
    generalize upd H1 t2 (HO.tup [V.str "go", V.bl true]) = H2 at q h2 di ⊢
    have h1 := q _ _ h1
    have hL := hL.up q
    have kp := kp.trans q
    refine ⟨(by show 2 ≤ sizeLine; decide), fun t3 n3 => ?_⟩
    have q := same_new (o := HO.tup [V.str "go", V.bl false]) n3
    have h3 : upd H2 t3 (HO.tup [V.str "go", V.bl false]) t3 = some (HO.tup [V.str "go", V.bl false]) := upd_same
    have e3 := dice_ne di n3
    have di := dice_upd (o := HO.tup [V.str "go", V.bl false]) di e3
    generalize upd H2 t3 (HO.tup [V.str "go", V.bl false]) = H3 at q h3 di ⊢
    have h1 := q _ _ h1
    have h2 := q _ _ h2
    have hL := hL.up q
    have kp := kp.trans q
    refine ⟨(by show 2 ≤ sizeLine; decide), fun t4 n4 => ?_⟩
    have q := same_new (o := HO.lst [V.str "go", V.int 0]) n4
    have h4 : upd H3 t4 (HO.lst [V.str "go", V.int 0]) t4 = some (HO.lst [V.str "go", V.int 0]) := upd_same
    have e4 := dice_ne di n4
    have di := dice_upd (o := HO.lst [V.str "go", V.int 0]) di e4
    generalize upd H3 t4 (HO.lst [V.str "go", V.int 0]) = H4 at q h4 di ⊢
    have h1 := q _ _ h1
    have h2 := q _ _ h2
    have h3 := q _ _ h3
    have hL := hL.up q
    have kp := kp.trans q
    refine ⟨(by show 3 ≤ sizeLine; decide), fun t5 n5 => ?_⟩
    have q := same_new (o := HO.tup [V.str "go", V.int 0, V.int 0]) n5
    have h5 : upd H4 t5 (HO.tup [V.str "go", V.int 0, V.int 0]) t5 = some (HO.tup [V.str "go", V.int 0, V.int 0]) := upd_same
    have e5 := dice_ne di n5
    have di := dice_upd (o := HO.tup [V.str "go", V.int 0, V.int 0]) di e5
    generalize upd H4 t5 (HO.tup [V.str "go", V.int 0, V.int 0]) = H5 at q h5 di ⊢
    have h1 := q _ _ h1
    have h2 := q _ _ h2
    have h3 := q _ _ h3
    have h4 := q _ _ h4
    have hL := hL.up q
    have kp := kp.trans q
    refine ⟨_, rfl, _, _, rfl, rfl, ?_⟩
    refine ⟨(by show 2 ≤ sizeLine; decide), fun t6 n6 => ?_⟩
    have q := same_new (o := HO.tup [V.str "go", V.int ((rs.length : Int) + 1)]) n6
    have h6 : upd H5 t6 (HO.tup [V.str "go", V.int ((rs.length : Int) + 1)]) t6 = some (HO.tup [V.str "go", V.int ((rs.length : Int) + 1)]) := upd_same
    have e6 := dice_ne di n6
    have di := dice_upd (o := HO.tup [V.str "go", V.int ((rs.length : Int) + 1)]) di e6
    generalize upd H5 t6 (HO.tup [V.str "go", V.int ((rs.length : Int) + 1)]) = H6 at q h6 di ⊢
    have h1 := q _ _ h1
    have h2 := q _ _ h2
    have h3 := q _ _ h3
    have h4 := q _ _ h4
    have h5 := q _ _ h5
    have hL := hL.up q
    have kp := kp.trans q
    refine ⟨_, rfl, ?_⟩
    refine ⟨(by show 2 ≤ sizeLine; decide), fun t7 n7 => ?_⟩
    have q := same_new (o := HO.tup [V.str "go", V.int (-1)]) n7
    have h7 : upd H6 t7 (HO.tup [V.str "go", V.int (-1)]) t7 = some (HO.tup [V.str "go", V.int (-1)]) := upd_same
    have e7 := dice_ne di n7
    have di := dice_upd (o := HO.tup [V.str "go", V.int (-1)]) di e7
    generalize upd H6 t7 (HO.tup [V.str "go", V.int (-1)]) = H7 at q h7 di ⊢
    have h1 := q _ _ h1
    have h2 := q _ _ h2
    have h3 := q _ _ h3
    have h4 := q _ _ h4
    have h5 := q _ _ h5
    have h6 := q _ _ h6
    have hL := hL.up q
    have kp := kp.trans q
    have go : AllOdd K p H7 rs [V.non, V.int 0, V.str "go", V.ref t1, V.ref t2, V.ref t3, V.ref t4, V.ref t5, V.ref t6, V.ref t7] := by
      intro x hx
      simp only [List.mem_cons, List.not_mem_nil, or_false] at hx
      rcases hx with rfl | rfl | rfl | rfl | rfl | rfl | rfl | rfl | rfl | rfl
      · exact .inl ⟨_, List.mem_of_getElem? (i := 0) rfl, .non⟩
      · exact .inl ⟨_, List.mem_of_getElem? (i := 1) rfl, (.int _)⟩
      · exact .inl ⟨_, List.mem_of_getElem? (i := 2) rfl, (.str _)⟩
      · exact .inl ⟨_, List.mem_of_getElem? (i := 3) rfl, (.tup (SqT.of (hid_at h1 e1)) (.cons (.str _) .nil))⟩
      · exact .inl ⟨_, List.mem_of_getElem? (i := 4) rfl, (.tup (SqT.of (hid_at h2 e2)) (.cons (.str _) (.cons (.bl _) .nil)))⟩
      · exact .inl ⟨_, List.mem_of_getElem? (i := 5) rfl, (.tup (SqT.of (hid_at h3 e3)) (.cons (.str _) (.cons (.bl _) .nil)))⟩
      · exact .inl ⟨_, List.mem_of_getElem? (i := 6) rfl, (.lst (SqL.of (hid_at h4 e4)) (.cons (.str _) (.cons (.int _) .nil)))⟩
      · exact .inl ⟨_, List.mem_of_getElem? (i := 7) rfl, (.tup (SqT.of (hid_at h5 e5)) (.cons (.str _) (.cons (.int _) (.cons (.int _) .nil))))⟩
      · exact .inl ⟨_, List.mem_of_getElem? (i := 8) rfl, (.tup (SqT.of (hid_at h6 e6)) (.cons (.str _) (.cons (.int _) .nil)))⟩
      · exact .inl ⟨_, List.mem_of_getElem? (i := 9) rfl, (.tup (SqT.of (hid_at h7 e7)) (.cons (.str _) (.cons (.int _) .nil)))⟩
    refine ⟨(by show 10 ≤ sizeLine; decide), fun t8 n8 => ?_⟩
    have q := same_new (o := HO.lst [V.non, V.int 0, V.str "go", V.ref t1, V.ref t2, V.ref t3, V.ref t4, V.ref t5, V.ref t6, V.ref t7]) n8
    have h8 : upd H7 t8 (HO.lst [V.non, V.int 0, V.str "go", V.ref t1, V.ref t2, V.ref t3, V.ref t4, V.ref t5, V.ref t6, V.ref t7]) t8 = some (HO.lst [V.non, V.int 0, V.str "go", V.ref t1, V.ref t2, V.ref t3, V.ref t4, V.ref t5, V.ref t6, V.ref t7]) := upd_same
    have e8 := dice_ne di n8
    have di := dice_upd (o := HO.lst [V.non, V.int 0, V.str "go", V.ref t1, V.ref t2, V.ref t3, V.ref t4, V.ref t5, V.ref t6, V.ref t7]) di e8
    generalize upd H7 t8 (HO.lst [V.non, V.int 0, V.str "go", V.ref t1, V.ref t2, V.ref t3, V.ref t4, V.ref t5, V.ref t6, V.ref t7]) = H8 at q h8 di ⊢
    have h1 := q _ _ h1
    have h2 := q _ _ h2
    have h3 := q _ _ h3
    have h4 := q _ _ h4
    have h5 := q _ _ h5
    have h6 := q _ _ h6
    have h7 := q _ _ h7
    have hL := hL.up q
    have kp := kp.trans q
    have go := go.up q
    have ao := go
    refine ⟨_, rfl, ?_⟩
    refine ⟨(by show 2 ≤ sizeLine; decide), fun t9 n9 => ?_⟩
    have q := same_new (o := HO.tup [V.str "read", V.str "item"]) n9
    have h9 : upd H8 t9 (HO.tup [V.str "read", V.str "item"]) t9 = some (HO.tup [V.str "read", V.str "item"]) := upd_same
    have e9 := dice_ne di n9
    have di := dice_upd (o := HO.tup [V.str "read", V.str "item"]) di e9
    generalize upd H8 t9 (HO.tup [V.str "read", V.str "item"]) = H9 at q h9 di ⊢
    have h1 := q _ _ h1
    have h2 := q _ _ h2
    have h3 := q _ _ h3
    have h4 := q _ _ h4
    have h5 := q _ _ h5
    have h6 := q _ _ h6
    have h7 := q _ _ h7
    have h8 := q _ _ h8
    have hL := hL.up q
    have kp := kp.trans q
    have ao := ao.up q
    refine ⟨(by show 4 ≤ sizeLine; decide), fun t10 n10 => ?_⟩
    have q := same_new (o := HO.tup [V.str "read", V.str "item", V.str "live", V.int 0]) n10
    have h10 : upd H9 t10 (HO.tup [V.str "read", V.str "item", V.str "live", V.int 0]) t10 = some (HO.tup [V.str "read", V.str "item", V.str "live", V.int 0]) := upd_same
    have e10 := dice_ne di n10
    have di := dice_upd (o := HO.tup [V.str "read", V.str "item", V.str "live", V.int 0]) di e10
    generalize upd H9 t10 (HO.tup [V.str "read", V.str "item", V.str "live", V.int 0]) = H10 at q h10 di ⊢
    have h1 := q _ _ h1
    have h2 := q _ _ h2
    have h3 := q _ _ h3
    have h4 := q _ _ h4
    have h5 := q _ _ h5
    have h6 := q _ _ h6
    have h7 := q _ _ h7
    have h8 := q _ _ h8
    have h9 := q _ _ h9
    have hL := hL.up q
    have kp := kp.trans q
    have ao := ao.up q
    refine ⟨(by show 3 ≤ sizeLine; decide), fun t11 n11 => ?_⟩
    have q := same_new (o := HO.tup [V.str "Read", V.str "item", V.str "live"]) n11
    have h11 : upd H10 t11 (HO.tup [V.str "Read", V.str "item", V.str "live"]) t11 = some (HO.tup [V.str "Read", V.str "item", V.str "live"]) := upd_same
    have e11 := dice_ne di n11
    have di := dice_upd (o := HO.tup [V.str "Read", V.str "item", V.str "live"]) di e11
    generalize upd H10 t11 (HO.tup [V.str "Read", V.str "item", V.str "live"]) = H11 at q h11 di ⊢
    have h1 := q _ _ h1
    have h2 := q _ _ h2
    have h3 := q _ _ h3
    have h4 := q _ _ h4
    have h5 := q _ _ h5
    have h6 := q _ _ h6
    have h7 := q _ _ h7
    have h8 := q _ _ h8
    have h9 := q _ _ h9
    have h10 := q _ _ h10
    have hL := hL.up q
    have kp := kp.trans q
    have ao := ao.up q
    refine ⟨(by show 2 ≤ sizeLine; decide), fun t12 n12 => ?_⟩
    have q := same_new (o := HO.tup [V.str "go", V.non]) n12
    have h12 : upd H11 t12 (HO.tup [V.str "go", V.non]) t12 = some (HO.tup [V.str "go", V.non]) := upd_same
    have e12 := dice_ne di n12
    have di := dice_upd (o := HO.tup [V.str "go", V.non]) di e12
    generalize upd H11 t12 (HO.tup [V.str "go", V.non]) = H12 at q h12 di ⊢
    have h1 := q _ _ h1
    have h2 := q _ _ h2
    have h3 := q _ _ h3
    have h4 := q _ _ h4
    have h5 := q _ _ h5
    have h6 := q _ _ h6
    have h7 := q _ _ h7
    have h8 := q _ _ h8
    have h9 := q _ _ h9
    have h10 := q _ _ h10
    have h11 := q _ _ h11
    have hL := hL.up q
    have kp := kp.trans q
    have ao := ao.up q
    have go : AllOdd K p H12 rs [V.ref t9, V.ref t10, V.ref t11, V.ref t12] := by
      intro x hx
      simp only [List.mem_cons, List.not_mem_nil, or_false] at hx
      rcases hx with rfl | rfl | rfl | rfl
      · exact .inl ⟨_, List.mem_of_getElem? (i := 10) rfl, (.tup (SqT.of (hid_at h9 e9)) (.cons (.str _) (.cons (.str _) .nil)))⟩
      · exact .inl ⟨_, List.mem_of_getElem? (i := 11) rfl, (.tup (SqT.of (hid_at h10 e10)) (.cons (.str _) (.cons (.str _) (.cons (.str _) (.cons (.int _) .nil)))))⟩
      · exact .inl ⟨_, List.mem_of_getElem? (i := 12) rfl, (.tup (SqT.of (hid_at h11 e11)) (.cons (.str _) (.cons (.str _) (.cons (.str _) .nil))))⟩
      · exact .inl ⟨_, List.mem_of_getElem? (i := 13) rfl, (.tup (SqT.of (hid_at h12 e12)) (.cons (.str _) (.cons .non .nil)))⟩
    refine ⟨(by show 4 ≤ sizeLine; decide), fun t13 n13 => ?_⟩
    have q := same_new (o := HO.lst [V.ref t9, V.ref t10, V.ref t11, V.ref t12]) n13
    have h13 : upd H12 t13 (HO.lst [V.ref t9, V.ref t10, V.ref t11, V.ref t12]) t13 = some (HO.lst [V.ref t9, V.ref t10, V.ref t11, V.ref t12]) := upd_same
    have e13 := dice_ne di n13
    have di := dice_upd (o := HO.lst [V.ref t9, V.ref t10, V.ref t11, V.ref t12]) di e13
    generalize upd H12 t13 (HO.lst [V.ref t9, V.ref t10, V.ref t11, V.ref t12]) = H13 at q h13 di ⊢
    have h1 := q _ _ h1
    have h2 := q _ _ h2
    have h3 := q _ _ h3
    have h4 := q _ _ h4
    have h5 := q _ _ h5
    have h6 := q _ _ h6
    have h7 := q _ _ h7
    have h8 := q _ _ h8
    have h9 := q _ _ h9
    have h10 := q _ _ h10
    have h11 := q _ _ h11
    have h12 := q _ _ h12
    have hL := hL.up q
    have kp := kp.trans q
    have ao := ao.up q
    have go := go.up q
    refine ⟨t8, t13, _, _, rfl, rfl, h8, h13, (by show 14 ≤ sizeLine; decide), ?_⟩
    have ao : AllOdd K p H13 rs ([V.non, V.int 0, V.str "go", V.ref t1, V.ref t2, V.ref t3, V.ref t4, V.ref t5, V.ref t6, V.ref t7] ++ [V.ref t9, V.ref t10, V.ref t11, V.ref t12]) := ao.app go
    refine fun t14 n14 => ?_
    have q := same_new (o := HO.lst ([V.non, V.int 0, V.str "go", V.ref t1, V.ref t2, V.ref t3, V.ref t4, V.ref t5, V.ref t6, V.ref t7] ++ [V.ref t9, V.ref t10, V.ref t11, V.ref t12])) n14
    have h14 : upd H13 t14 (HO.lst ([V.non, V.int 0, V.str "go", V.ref t1, V.ref t2, V.ref t3, V.ref t4, V.ref t5, V.ref t6, V.ref t7] ++ [V.ref t9, V.ref t10, V.ref t11, V.ref t12])) t14 = some (HO.lst ([V.non, V.int 0, V.str "go", V.ref t1, V.ref t2, V.ref t3, V.ref t4, V.ref t5, V.ref t6, V.ref t7] ++ [V.ref t9, V.ref t10, V.ref t11, V.ref t12])) := upd_same
    have e14 := dice_ne di n14
    have di := dice_upd (o := HO.lst ([V.non, V.int 0, V.str "go", V.ref t1, V.ref t2, V.ref t3, V.ref t4, V.ref t5, V.ref t6, V.ref t7] ++ [V.ref t9, V.ref t10, V.ref t11, V.ref t12])) di e14
    generalize upd H13 t14 (HO.lst ([V.non, V.int 0, V.str "go", V.ref t1, V.ref t2, V.ref t3, V.ref t4, V.ref t5, V.ref t6, V.ref t7] ++ [V.ref t9, V.ref t10, V.ref t11, V.ref t12])) = H14 at q h14 di ⊢
    have h1 := q _ _ h1
    have h2 := q _ _ h2
    have h3 := q _ _ h3
    have h4 := q _ _ h4
    have h5 := q _ _ h5
    have h6 := q _ _ h6
    have h7 := q _ _ h7
    have h8 := q _ _ h8
    have h9 := q _ _ h9
    have h10 := q _ _ h10
    have h11 := q _ _ h11
    have h12 := q _ _ h12
    have h13 := q _ _ h13
    have hL := hL.up q
    have kp := kp.trans q
    have ao := ao.up q
    refine ⟨_, rfl, ?_⟩
    refine ⟨(by show 4 ≤ sizeLine; decide), fun t15 n15 => ?_⟩
    have q := same_new (o := HO.tup [V.str "if", V.str "item", V.str "live", V.bl true]) n15
    have h15 : upd H14 t15 (HO.tup [V.str "if", V.str "item", V.str "live", V.bl true]) t15 = some (HO.tup [V.str "if", V.str "item", V.str "live", V.bl true]) := upd_same
    have e15 := dice_ne di n15
    have di := dice_upd (o := HO.tup [V.str "if", V.str "item", V.str "live", V.bl true]) di e15
    generalize upd H14 t15 (HO.tup [V.str "if", V.str "item", V.str "live", V.bl true]) = H15 at q h15 di ⊢
    have h1 := q _ _ h1
    have h2 := q _ _ h2
    have h3 := q _ _ h3
    have h4 := q _ _ h4
    have h5 := q _ _ h5
    have h6 := q _ _ h6
    have h7 := q _ _ h7
    have h8 := q _ _ h8
    have h9 := q _ _ h9
    have h10 := q _ _ h10
    have h11 := q _ _ h11
    have h12 := q _ _ h12
    have h13 := q _ _ h13
    have h14 := q _ _ h14
    have hL := hL.up q
    have kp := kp.trans q
    have ao := ao.up q
    refine ⟨(by show 4 ≤ sizeLine; decide), fun t16 n16 => ?_⟩
    have q := same_new (o := HO.tup [V.str "if", V.str "item", V.str "live", V.bl false]) n16
    have h16 : upd H15 t16 (HO.tup [V.str "if", V.str "item", V.str "live", V.bl false]) t16 = some (HO.tup [V.str "if", V.str "item", V.str "live", V.bl false]) := upd_same
    have e16 := dice_ne di n16
    have di := dice_upd (o := HO.tup [V.str "if", V.str "item", V.str "live", V.bl false]) di e16
    generalize upd H15 t16 (HO.tup [V.str "if", V.str "item", V.str "live", V.bl false]) = H16 at q h16 di ⊢
    have h1 := q _ _ h1
    have h2 := q _ _ h2
    have h3 := q _ _ h3
    have h4 := q _ _ h4
    have h5 := q _ _ h5
    have h6 := q _ _ h6
    have h7 := q _ _ h7
    have h8 := q _ _ h8
    have h9 := q _ _ h9
    have h10 := q _ _ h10
    have h11 := q _ _ h11
    have h12 := q _ _ h12
    have h13 := q _ _ h13
    have h14 := q _ _ h14
    have h15 := q _ _ h15
    have hL := hL.up q
    have kp := kp.trans q
    have ao := ao.up q
    refine ⟨(by show 1 ≤ sizeLine; decide), fun t17 n17 => ?_⟩
    have q := same_new (o := HO.lst [V.str "live"]) n17
    have h17 : upd H16 t17 (HO.lst [V.str "live"]) t17 = some (HO.lst [V.str "live"]) := upd_same
    have e17 := dice_ne di n17
    have di := dice_upd (o := HO.lst [V.str "live"]) di e17
    generalize upd H16 t17 (HO.lst [V.str "live"]) = H17 at q h17 di ⊢
    have h1 := q _ _ h1
    have h2 := q _ _ h2
    have h3 := q _ _ h3
    have h4 := q _ _ h4
    have h5 := q _ _ h5
    have h6 := q _ _ h6
    have h7 := q _ _ h7
    have h8 := q _ _ h8
    have h9 := q _ _ h9
    have h10 := q _ _ h10
    have h11 := q _ _ h11
    have h12 := q _ _ h12
    have h13 := q _ _ h13
    have h14 := q _ _ h14
    have h15 := q _ _ h15
    have h16 := q _ _ h16
    have hL := hL.up q
    have kp := kp.trans q
    have ao := ao.up q
    refine ⟨(by show 3 ≤ sizeLine; decide), fun t18 n18 => ?_⟩
    have q := same_new (o := HO.tup [V.str "look", V.str "item", V.ref t17]) n18
    have h18 : upd H17 t18 (HO.tup [V.str "look", V.str "item", V.ref t17]) t18 = some (HO.tup [V.str "look", V.str "item", V.ref t17]) := upd_same
    have e18 := dice_ne di n18
    have di := dice_upd (o := HO.tup [V.str "look", V.str "item", V.ref t17]) di e18
    generalize upd H17 t18 (HO.tup [V.str "look", V.str "item", V.ref t17]) = H18 at q h18 di ⊢
    have h1 := q _ _ h1
    have h2 := q _ _ h2
    have h3 := q _ _ h3
    have h4 := q _ _ h4
    have h5 := q _ _ h5
    have h6 := q _ _ h6
    have h7 := q _ _ h7
    have h8 := q _ _ h8
    have h9 := q _ _ h9
    have h10 := q _ _ h10
    have h11 := q _ _ h11
    have h12 := q _ _ h12
    have h13 := q _ _ h13
    have h14 := q _ _ h14
    have h15 := q _ _ h15
    have h16 := q _ _ h16
    have h17 := q _ _ h17
    have hL := hL.up q
    have kp := kp.trans q
    have ao := ao.up q
    have go : AllOdd K p H18 rs [V.ref t15, V.ref t16, V.ref t18] := by
      intro x hx
      simp only [List.mem_cons, List.not_mem_nil, or_false] at hx
      rcases hx with rfl | rfl | rfl
      · exact .inl ⟨_, List.mem_of_getElem? (i := 14) rfl, (.tup (SqT.of (hid_at h15 e15)) (.cons (.str _) (.cons (.str _) (.cons (.str _) (.cons (.bl _) .nil)))))⟩
      · exact .inl ⟨_, List.mem_of_getElem? (i := 15) rfl, (.tup (SqT.of (hid_at h16 e16)) (.cons (.str _) (.cons (.str _) (.cons (.str _) (.cons (.bl _) .nil)))))⟩
      · exact .inl ⟨_, List.mem_of_getElem? (i := 16) rfl, (.tup (SqT.of (hid_at h18 e18)) (.cons (.str _) (.cons (.str _) (.cons (.lst (SqL.of (hid_at h17 e17)) (.cons (.str _) .nil)) .nil))))⟩
    refine ⟨(by show 3 ≤ sizeLine; decide), fun t19 n19 => ?_⟩
    have q := same_new (o := HO.lst [V.ref t15, V.ref t16, V.ref t18]) n19
    have h19 : upd H18 t19 (HO.lst [V.ref t15, V.ref t16, V.ref t18]) t19 = some (HO.lst [V.ref t15, V.ref t16, V.ref t18]) := upd_same
    have e19 := dice_ne di n19
    have di := dice_upd (o := HO.lst [V.ref t15, V.ref t16, V.ref t18]) di e19
    generalize upd H18 t19 (HO.lst [V.ref t15, V.ref t16, V.ref t18]) = H19 at q h19 di ⊢
    have h1 := q _ _ h1
    have h2 := q _ _ h2
    have h3 := q _ _ h3
    have h4 := q _ _ h4
    have h5 := q _ _ h5
    have h6 := q _ _ h6
    have h7 := q _ _ h7
    have h8 := q _ _ h8
    have h9 := q _ _ h9
    have h10 := q _ _ h10
    have h11 := q _ _ h11
    have h12 := q _ _ h12
    have h13 := q _ _ h13
    have h14 := q _ _ h14
    have h15 := q _ _ h15
    have h16 := q _ _ h16
    have h17 := q _ _ h17
    have h18 := q _ _ h18
    have hL := hL.up q
    have kp := kp.trans q
    have ao := ao.up q
    have go := go.up q
    refine ⟨t14, t19, _, _, rfl, rfl, h14, h19, (by show 17 ≤ sizeLine; decide), ?_⟩
    have ao : AllOdd K p H19 rs (([V.non, V.int 0, V.str "go", V.ref t1, V.ref t2, V.ref t3, V.ref t4, V.ref t5, V.ref t6, V.ref t7] ++ [V.ref t9, V.ref t10, V.ref t11, V.ref t12]) ++ [V.ref t15, V.ref t16, V.ref t18]) := ao.app go
    refine fun t20 n20 => ?_
    have q := same_new (o := HO.lst (([V.non, V.int 0, V.str "go", V.ref t1, V.ref t2, V.ref t3, V.ref t4, V.ref t5, V.ref t6, V.ref t7] ++ [V.ref t9, V.ref t10, V.ref t11, V.ref t12]) ++ [V.ref t15, V.ref t16, V.ref t18])) n20
    have h20 : upd H19 t20 (HO.lst (([V.non, V.int 0, V.str "go", V.ref t1, V.ref t2, V.ref t3, V.ref t4, V.ref t5, V.ref t6, V.ref t7] ++ [V.ref t9, V.ref t10, V.ref t11, V.ref t12]) ++ [V.ref t15, V.ref t16, V.ref t18])) t20 = some (HO.lst (([V.non, V.int 0, V.str "go", V.ref t1, V.ref t2, V.ref t3, V.ref t4, V.ref t5, V.ref t6, V.ref t7] ++ [V.ref t9, V.ref t10, V.ref t11, V.ref t12]) ++ [V.ref t15, V.ref t16, V.ref t18])) := upd_same
    have e20 := dice_ne di n20
    have di := dice_upd (o := HO.lst (([V.non, V.int 0, V.str "go", V.ref t1, V.ref t2, V.ref t3, V.ref t4, V.ref t5, V.ref t6, V.ref t7] ++ [V.ref t9, V.ref t10, V.ref t11, V.ref t12]) ++ [V.ref t15, V.ref t16, V.ref t18])) di e20
    generalize upd H19 t20 (HO.lst (([V.non, V.int 0, V.str "go", V.ref t1, V.ref t2, V.ref t3, V.ref t4, V.ref t5, V.ref t6, V.ref t7] ++ [V.ref t9, V.ref t10, V.ref t11, V.ref t12]) ++ [V.ref t15, V.ref t16, V.ref t18])) = H20 at q h20 di ⊢
    have h1 := q _ _ h1
    have h2 := q _ _ h2
    have h3 := q _ _ h3
    have h4 := q _ _ h4
    have h5 := q _ _ h5
    have h6 := q _ _ h6
    have h7 := q _ _ h7
    have h8 := q _ _ h8
    have h9 := q _ _ h9
    have h10 := q _ _ h10
    have h11 := q _ _ h11
    have h12 := q _ _ h12
    have h13 := q _ _ h13
    have h14 := q _ _ h14
    have h15 := q _ _ h15
    have h16 := q _ _ h16
    have h17 := q _ _ h17
    have h18 := q _ _ h18
    have h19 := q _ _ h19
    have hL := hL.up q
    have kp := kp.trans q
    have ao := ao.up q
    refine ⟨_, rfl, ?_⟩
    refine ⟨_, rfl, ?_⟩
    refine ⟨(by show 0 ≤ sizeLine; decide), fun t21 n21 => ?_⟩
    have q := same_new (o := HO.tup []) n21
    have h21 : upd H20 t21 (HO.tup []) t21 = some (HO.tup []) := upd_same
    have e21 := dice_ne di n21
    have di := dice_upd (o := HO.tup []) di e21
    generalize upd H20 t21 (HO.tup []) = H21 at q h21 di ⊢
    have h1 := q _ _ h1
    have h2 := q _ _ h2
    have h3 := q _ _ h3
    have h4 := q _ _ h4
    have h5 := q _ _ h5
    have h6 := q _ _ h6
    have h7 := q _ _ h7
    have h8 := q _ _ h8
    have h9 := q _ _ h9
    have h10 := q _ _ h10
    have h11 := q _ _ h11
    have h12 := q _ _ h12
    have h13 := q _ _ h13
    have h14 := q _ _ h14
    have h15 := q _ _ h15
    have h16 := q _ _ h16
    have h17 := q _ _ h17
    have h18 := q _ _ h18
    have h19 := q _ _ h19
    have h20 := q _ _ h20
    have hL := hL.up q
    have kp := kp.trans q
    have ao := ao.up q
    intro t22 n22
    have q := same_new (o := HO.dK []) n22
    have h22 : upd H21 t22 (HO.dK []) t22 = some (HO.dK []) := upd_same
    have e22 := dice_ne di n22
    have di := dice_upd (o := HO.dK []) di e22
    generalize upd H21 t22 (HO.dK []) = H22 at q h22 di ⊢
    have h1 := q _ _ h1
    have h2 := q _ _ h2
    have h3 := q _ _ h3
    have h4 := q _ _ h4
    have h5 := q _ _ h5
    have h6 := q _ _ h6
    have h7 := q _ _ h7
    have h8 := q _ _ h8
    have h9 := q _ _ h9
    have h10 := q _ _ h10
    have h11 := q _ _ h11
    have h12 := q _ _ h12
    have h13 := q _ _ h13
    have h14 := q _ _ h14
    have h15 := q _ _ h15
    have h16 := q _ _ h16
    have h17 := q _ _ h17
    have h18 := q _ _ h18
    have h19 := q _ _ h19
    have h20 := q _ _ h20
    have h21 := q _ _ h21
    have hL := hL.up q
    have kp := kp.trans q
    have ao := ao.up q
    refine ⟨(by show 2 ≤ sizeLine; decide), fun t23 n23 => ?_⟩
    have q := same_new (o := HO.tup [V.str "go", V.int 0]) n23
    have h23 : upd H22 t23 (HO.tup [V.str "go", V.int 0]) t23 = some (HO.tup [V.str "go", V.int 0]) := upd_same
    have e23 := dice_ne di n23
    have di := dice_upd (o := HO.tup [V.str "go", V.int 0]) di e23
    generalize upd H22 t23 (HO.tup [V.str "go", V.int 0]) = H23 at q h23 di ⊢
    have h1 := q _ _ h1
    have h2 := q _ _ h2
    have h3 := q _ _ h3
    have h4 := q _ _ h4
    have h5 := q _ _ h5
    have h6 := q _ _ h6
    have h7 := q _ _ h7
    have h8 := q _ _ h8
    have h9 := q _ _ h9
    have h10 := q _ _ h10
    have h11 := q _ _ h11
    have h12 := q _ _ h12
    have h13 := q _ _ h13
    have h14 := q _ _ h14
    have h15 := q _ _ h15
    have h16 := q _ _ h16
    have h17 := q _ _ h17
    have h18 := q _ _ h18
    have h19 := q _ _ h19
    have h20 := q _ _ h20
    have h21 := q _ _ h21
    have h22 := q _ _ h22
    have hL := hL.up q
    have kp := kp.trans q
    have ao := ao.up q
    refine ⟨(by show 1 ≤ sizeLine; decide), fun t24 n24 => ?_⟩
    have q := same_new (o := HO.tup [V.ref t23]) n24
    have h24 : upd H23 t24 (HO.tup [V.ref t23]) t24 = some (HO.tup [V.ref t23]) := upd_same
    have e24 := dice_ne di n24
    have di := dice_upd (o := HO.tup [V.ref t23]) di e24
    generalize upd H23 t24 (HO.tup [V.ref t23]) = H24 at q h24 di ⊢
    have h1 := q _ _ h1
    have h2 := q _ _ h2
    have h3 := q _ _ h3
    have h4 := q _ _ h4
    have h5 := q _ _ h5
    have h6 := q _ _ h6
    have h7 := q _ _ h7
    have h8 := q _ _ h8
    have h9 := q _ _ h9
    have h10 := q _ _ h10
    have h11 := q _ _ h11
    have h12 := q _ _ h12
    have h13 := q _ _ h13
    have h14 := q _ _ h14
    have h15 := q _ _ h15
    have h16 := q _ _ h16
    have h17 := q _ _ h17
    have h18 := q _ _ h18
    have h19 := q _ _ h19
    have h20 := q _ _ h20
    have h21 := q _ _ h21
    have h22 := q _ _ h22
    have h23 := q _ _ h23
    have hL := hL.up q
    have kp := kp.trans q
    have ao := ao.up q
    have go : AllOdd K p H24 rs [V.ref L, V.ref t21, V.ref t22, V.ref t24] := by
      intro x hx
      simp only [List.mem_cons, List.not_mem_nil, or_false] at hx
      rcases hx with rfl | rfl | rfl | rfl
      · exact .inl ⟨_, List.mem_of_getElem? (i := 17) rfl, (lines_hid hL di).dp⟩
      · exact .inl ⟨_, List.mem_of_getElem? (i := 18) rfl, (.tup (SqT.of (hid_at h21 e21)) .nil)⟩
      · exact .inr ⟨_, rfl, hid_at h22 e22⟩
      · exact .inl ⟨_, List.mem_of_getElem? (i := 19) rfl, (.tup (SqT.of (hid_at h24 e24)) (.cons (.tup (SqT.of (hid_at h23 e23)) (.cons (.str _) (.cons (.int _) .nil))) .nil))⟩
    refine ⟨(by show 4 ≤ sizeLine; decide), fun t25 n25 => ?_⟩
    have q := same_new (o := HO.lst [V.ref L, V.ref t21, V.ref t22, V.ref t24]) n25
    have h25 : upd H24 t25 (HO.lst [V.ref L, V.ref t21, V.ref t22, V.ref t24]) t25 = some (HO.lst [V.ref L, V.ref t21, V.ref t22, V.ref t24]) := upd_same
    have e25 := dice_ne di n25
    have di := dice_upd (o := HO.lst [V.ref L, V.ref t21, V.ref t22, V.ref t24]) di e25
    generalize upd H24 t25 (HO.lst [V.ref L, V.ref t21, V.ref t22, V.ref t24]) = H25 at q h25 di ⊢
    have h1 := q _ _ h1
    have h2 := q _ _ h2
    have h3 := q _ _ h3
    have h4 := q _ _ h4
    have h5 := q _ _ h5
    have h6 := q _ _ h6
    have h7 := q _ _ h7
    have h8 := q _ _ h8
    have h9 := q _ _ h9
    have h10 := q _ _ h10
    have h11 := q _ _ h11
    have h12 := q _ _ h12
    have h13 := q _ _ h13
    have h14 := q _ _ h14
    have h15 := q _ _ h15
    have h16 := q _ _ h16
    have h17 := q _ _ h17
    have h18 := q _ _ h18
    have h19 := q _ _ h19
    have h20 := q _ _ h20
    have h21 := q _ _ h21
    have h22 := q _ _ h22
    have h23 := q _ _ h23
    have h24 := q _ _ h24
    have hL := hL.up q
    have kp := kp.trans q
    have ao := ao.up q
    have go := go.up q
    refine ⟨t20, t25, _, _, rfl, rfl, h20, h25, (by show 21 ≤ sizeLine; decide), ?_⟩
    have ao : AllOdd K p H25 rs ((([V.non, V.int 0, V.str "go", V.ref t1, V.ref t2, V.ref t3, V.ref t4, V.ref t5, V.ref t6, V.ref t7] ++ [V.ref t9, V.ref t10, V.ref t11, V.ref t12]) ++ [V.ref t15, V.ref t16, V.ref t18]) ++ [V.ref L, V.ref t21, V.ref t22, V.ref t24]) := ao.app go
    refine fun t26 n26 => ?_
    have q := same_new (o := HO.lst ((([V.non, V.int 0, V.str "go", V.ref t1, V.ref t2, V.ref t3, V.ref t4, V.ref t5, V.ref t6, V.ref t7] ++ [V.ref t9, V.ref t10, V.ref t11, V.ref t12]) ++ [V.ref t15, V.ref t16, V.ref t18]) ++ [V.ref L, V.ref t21, V.ref t22, V.ref t24])) n26
    have h26 : upd H25 t26 (HO.lst ((([V.non, V.int 0, V.str "go", V.ref t1, V.ref t2, V.ref t3, V.ref t4, V.ref t5, V.ref t6, V.ref t7] ++ [V.ref t9, V.ref t10, V.ref t11, V.ref t12]) ++ [V.ref t15, V.ref t16, V.ref t18]) ++ [V.ref L, V.ref t21, V.ref t22, V.ref t24])) t26 = some (HO.lst ((([V.non, V.int 0, V.str "go", V.ref t1, V.ref t2, V.ref t3, V.ref t4, V.ref t5, V.ref t6, V.ref t7] ++ [V.ref t9, V.ref t10, V.ref t11, V.ref t12]) ++ [V.ref t15, V.ref t16, V.ref t18]) ++ [V.ref L, V.ref t21, V.ref t22, V.ref t24])) := upd_same
    have e26 := dice_ne di n26
    have di := dice_upd (o := HO.lst ((([V.non, V.int 0, V.str "go", V.ref t1, V.ref t2, V.ref t3, V.ref t4, V.ref t5, V.ref t6, V.ref t7] ++ [V.ref t9, V.ref t10, V.ref t11, V.ref t12]) ++ [V.ref t15, V.ref t16, V.ref t18]) ++ [V.ref L, V.ref t21, V.ref t22, V.ref t24])) di e26
    generalize upd H25 t26 (HO.lst ((([V.non, V.int 0, V.str "go", V.ref t1, V.ref t2, V.ref t3, V.ref t4, V.ref t5, V.ref t6, V.ref t7] ++ [V.ref t9, V.ref t10, V.ref t11, V.ref t12]) ++ [V.ref t15, V.ref t16, V.ref t18]) ++ [V.ref L, V.ref t21, V.ref t22, V.ref t24])) = H26 at q h26 di ⊢
    have h1 := q _ _ h1
    have h2 := q _ _ h2
    have h3 := q _ _ h3
    have h4 := q _ _ h4
    have h5 := q _ _ h5
    have h6 := q _ _ h6
    have h7 := q _ _ h7
    have h8 := q _ _ h8
    have h9 := q _ _ h9
    have h10 := q _ _ h10
    have h11 := q _ _ h11
    have h12 := q _ _ h12
    have h13 := q _ _ h13
    have h14 := q _ _ h14
    have h15 := q _ _ h15
    have h16 := q _ _ h16
    have h17 := q _ _ h17
    have h18 := q _ _ h18
    have h19 := q _ _ h19
    have h20 := q _ _ h20
    have h21 := q _ _ h21
    have h22 := q _ _ h22
    have h23 := q _ _ h23
    have h24 := q _ _ h24
    have h25 := q _ _ h25
    have hL := hL.up q
    have kp := kp.trans q
    have ao := ao.up q
    refine ⟨_, rfl, ?_⟩
    refine ⟨(by show 3 ≤ sizeLine; decide), fun t27 n27 => ?_⟩
    have q := same_new (o := HO.tup [V.str "read", V.str "item", V.str "gone"]) n27
    have h27 : upd H26 t27 (HO.tup [V.str "read", V.str "item", V.str "gone"]) t27 = some (HO.tup [V.str "read", V.str "item", V.str "gone"]) := upd_same
    have e27 := dice_ne di n27
    have di := dice_upd (o := HO.tup [V.str "read", V.str "item", V.str "gone"]) di e27
    generalize upd H26 t27 (HO.tup [V.str "read", V.str "item", V.str "gone"]) = H27 at q h27 di ⊢
    have h1 := q _ _ h1
    have h2 := q _ _ h2
    have h3 := q _ _ h3
    have h4 := q _ _ h4
    have h5 := q _ _ h5
    have h6 := q _ _ h6
    have h7 := q _ _ h7
    have h8 := q _ _ h8
    have h9 := q _ _ h9
    have h10 := q _ _ h10
    have h11 := q _ _ h11
    have h12 := q _ _ h12
    have h13 := q _ _ h13
    have h14 := q _ _ h14
    have h15 := q _ _ h15
    have h16 := q _ _ h16
    have h17 := q _ _ h17
    have h18 := q _ _ h18
    have h19 := q _ _ h19
    have h20 := q _ _ h20
    have h21 := q _ _ h21
    have h22 := q _ _ h22
    have h23 := q _ _ h23
    have h24 := q _ _ h24
    have h25 := q _ _ h25
    have h26 := q _ _ h26
    have hL := hL.up q
    have kp := kp.trans q
    have ao := ao.up q
    refine ⟨(by show 3 ≤ sizeLine; decide), fun t28 n28 => ?_⟩
    have q := same_new (o := HO.tup [V.str "look", V.str "gone", V.str "live"]) n28
    have h28 : upd H27 t28 (HO.tup [V.str "look", V.str "gone", V.str "live"]) t28 = some (HO.tup [V.str "look", V.str "gone", V.str "live"]) := upd_same
    have e28 := dice_ne di n28
    have di := dice_upd (o := HO.tup [V.str "look", V.str "gone", V.str "live"]) di e28
    generalize upd H27 t28 (HO.tup [V.str "look", V.str "gone", V.str "live"]) = H28 at q h28 di ⊢
    have h1 := q _ _ h1
    have h2 := q _ _ h2
    have h3 := q _ _ h3
    have h4 := q _ _ h4
    have h5 := q _ _ h5
    have h6 := q _ _ h6
    have h7 := q _ _ h7
    have h8 := q _ _ h8
    have h9 := q _ _ h9
    have h10 := q _ _ h10
    have h11 := q _ _ h11
    have h12 := q _ _ h12
    have h13 := q _ _ h13
    have h14 := q _ _ h14
    have h15 := q _ _ h15
    have h16 := q _ _ h16
    have h17 := q _ _ h17
    have h18 := q _ _ h18
    have h19 := q _ _ h19
    have h20 := q _ _ h20
    have h21 := q _ _ h21
    have h22 := q _ _ h22
    have h23 := q _ _ h23
    have h24 := q _ _ h24
    have h25 := q _ _ h25
    have h26 := q _ _ h26
    have h27 := q _ _ h27
    have hL := hL.up q
    have kp := kp.trans q
    have ao := ao.up q
    refine ⟨(by show 3 ≤ sizeLine; decide), fun t29 n29 => ?_⟩
    have q := same_new (o := HO.tup [V.str "read", V.int 1, V.str "live"]) n29
    have h29 : upd H28 t29 (HO.tup [V.str "read", V.int 1, V.str "live"]) t29 = some (HO.tup [V.str "read", V.int 1, V.str "live"]) := upd_same
    have e29 := dice_ne di n29
    have di := dice_upd (o := HO.tup [V.str "read", V.int 1, V.str "live"]) di e29
    generalize upd H28 t29 (HO.tup [V.str "read", V.int 1, V.str "live"]) = H29 at q h29 di ⊢
    have h1 := q _ _ h1
    have h2 := q _ _ h2
    have h3 := q _ _ h3
    have h4 := q _ _ h4
    have h5 := q _ _ h5
    have h6 := q _ _ h6
    have h7 := q _ _ h7
    have h8 := q _ _ h8
    have h9 := q _ _ h9
    have h10 := q _ _ h10
    have h11 := q _ _ h11
    have h12 := q _ _ h12
    have h13 := q _ _ h13
    have h14 := q _ _ h14
    have h15 := q _ _ h15
    have h16 := q _ _ h16
    have h17 := q _ _ h17
    have h18 := q _ _ h18
    have h19 := q _ _ h19
    have h20 := q _ _ h20
    have h21 := q _ _ h21
    have h22 := q _ _ h22
    have h23 := q _ _ h23
    have h24 := q _ _ h24
    have h25 := q _ _ h25
    have h26 := q _ _ h26
    have h27 := q _ _ h27
    have h28 := q _ _ h28
    have hL := hL.up q
    have kp := kp.trans q
    have ao := ao.up q
    refine ⟨(by show 2 ≤ sizeLine; decide), fun t30 n30 => ?_⟩
    have q := same_new (o := HO.tup [V.str "go", V.str "0"]) n30
    have h30 : upd H29 t30 (HO.tup [V.str "go", V.str "0"]) t30 = some (HO.tup [V.str "go", V.str "0"]) := upd_same
    have e30 := dice_ne di n30
    have di := dice_upd (o := HO.tup [V.str "go", V.str "0"]) di e30
    generalize upd H29 t30 (HO.tup [V.str "go", V.str "0"]) = H30 at q h30 di ⊢
    have h1 := q _ _ h1
    have h2 := q _ _ h2
    have h3 := q _ _ h3
    have h4 := q _ _ h4
    have h5 := q _ _ h5
    have h6 := q _ _ h6
    have h7 := q _ _ h7
    have h8 := q _ _ h8
    have h9 := q _ _ h9
    have h10 := q _ _ h10
    have h11 := q _ _ h11
    have h12 := q _ _ h12
    have h13 := q _ _ h13
    have h14 := q _ _ h14
    have h15 := q _ _ h15
    have h16 := q _ _ h16
    have h17 := q _ _ h17
    have h18 := q _ _ h18
    have h19 := q _ _ h19
    have h20 := q _ _ h20
    have h21 := q _ _ h21
    have h22 := q _ _ h22
    have h23 := q _ _ h23
    have h24 := q _ _ h24
    have h25 := q _ _ h25
    have h26 := q _ _ h26
    have h27 := q _ _ h27
    have h28 := q _ _ h28
    have h29 := q _ _ h29
    have hL := hL.up q
    have kp := kp.trans q
    have ao := ao.up q
    refine ⟨(by show 0 ≤ sizeLine; decide), fun t31 n31 => ?_⟩
    have q := same_new (o := HO.lst []) n31
    have h31 : upd H30 t31 (HO.lst []) t31 = some (HO.lst []) := upd_same
    have e31 := dice_ne di n31
    have di := dice_upd (o := HO.lst []) di e31
    generalize upd H30 t31 (HO.lst []) = H31 at q h31 di ⊢
    have h1 := q _ _ h1
    have h2 := q _ _ h2
    have h3 := q _ _ h3
    have h4 := q _ _ h4
    have h5 := q _ _ h5
    have h6 := q _ _ h6
    have h7 := q _ _ h7
    have h8 := q _ _ h8
    have h9 := q _ _ h9
    have h10 := q _ _ h10
    have h11 := q _ _ h11
    have h12 := q _ _ h12
    have h13 := q _ _ h13
    have h14 := q _ _ h14
    have h15 := q _ _ h15
    have h16 := q _ _ h16
    have h17 := q _ _ h17
    have h18 := q _ _ h18
    have h19 := q _ _ h19
    have h20 := q _ _ h20
    have h21 := q _ _ h21
    have h22 := q _ _ h22
    have h23 := q _ _ h23
    have h24 := q _ _ h24
    have h25 := q _ _ h25
    have h26 := q _ _ h26
    have h27 := q _ _ h27
    have h28 := q _ _ h28
    have h29 := q _ _ h29
    have h30 := q _ _ h30
    have hL := hL.up q
    have kp := kp.trans q
    have ao := ao.up q
    have go : AllOdd K p H31 rs [V.ref t27, V.ref t28, V.ref t29, V.ref t30, V.ref t31, V.bl true] := by
      intro x hx
      simp only [List.mem_cons, List.not_mem_nil, or_false] at hx
      rcases hx with rfl | rfl | rfl | rfl | rfl | rfl
      · exact .inl ⟨_, List.mem_of_getElem? (i := 20) rfl, (.tup (SqT.of (hid_at h27 e27)) (.cons (.str _) (.cons (.str _) (.cons (.str _) .nil))))⟩
      · exact .inl ⟨_, List.mem_of_getElem? (i := 21) rfl, (.tup (SqT.of (hid_at h28 e28)) (.cons (.str _) (.cons (.str _) (.cons (.str _) .nil))))⟩
      · exact .inl ⟨_, List.mem_of_getElem? (i := 22) rfl, (.tup (SqT.of (hid_at h29 e29)) (.cons (.str _) (.cons (.int _) (.cons (.str _) .nil))))⟩
      · exact .inl ⟨_, List.mem_of_getElem? (i := 23) rfl, (.tup (SqT.of (hid_at h30 e30)) (.cons (.str _) (.cons (.str _) .nil)))⟩
      · exact .inl ⟨_, List.mem_of_getElem? (i := 24) rfl, (.lst (SqL.of (hid_at h31 e31)) .nil)⟩
      · exact .inl ⟨_, List.mem_of_getElem? (i := 25) rfl, (.bl _)⟩
    refine ⟨(by show 6 ≤ sizeLine; decide), fun t32 n32 => ?_⟩
    have q := same_new (o := HO.lst [V.ref t27, V.ref t28, V.ref t29, V.ref t30, V.ref t31, V.bl true]) n32
    have h32 : upd H31 t32 (HO.lst [V.ref t27, V.ref t28, V.ref t29, V.ref t30, V.ref t31, V.bl true]) t32 = some (HO.lst [V.ref t27, V.ref t28, V.ref t29, V.ref t30, V.ref t31, V.bl true]) := upd_same
    have e32 := dice_ne di n32
    have di := dice_upd (o := HO.lst [V.ref t27, V.ref t28, V.ref t29, V.ref t30, V.ref t31, V.bl true]) di e32
    generalize upd H31 t32 (HO.lst [V.ref t27, V.ref t28, V.ref t29, V.ref t30, V.ref t31, V.bl true]) = H32 at q h32 di ⊢
    have h1 := q _ _ h1
    have h2 := q _ _ h2
    have h3 := q _ _ h3
    have h4 := q _ _ h4
    have h5 := q _ _ h5
    have h6 := q _ _ h6
    have h7 := q _ _ h7
    have h8 := q _ _ h8
    have h9 := q _ _ h9
    have h10 := q _ _ h10
    have h11 := q _ _ h11
    have h12 := q _ _ h12
    have h13 := q _ _ h13
    have h14 := q _ _ h14
    have h15 := q _ _ h15
    have h16 := q _ _ h16
    have h17 := q _ _ h17
    have h18 := q _ _ h18
    have h19 := q _ _ h19
    have h20 := q _ _ h20
    have h21 := q _ _ h21
    have h22 := q _ _ h22
    have h23 := q _ _ h23
    have h24 := q _ _ h24
    have h25 := q _ _ h25
    have h26 := q _ _ h26
    have h27 := q _ _ h27
    have h28 := q _ _ h28
    have h29 := q _ _ h29
    have h30 := q _ _ h30
    have h31 := q _ _ h31
    have hL := hL.up q
    have kp := kp.trans q
    have ao := ao.up q
    have go := go.up q
    refine ⟨t26, t32, _, _, rfl, rfl, h26, h32, (by show 27 ≤ sizeLine; decide), ?_⟩
    have ao : AllOdd K p H32 rs (((([V.non, V.int 0, V.str "go", V.ref t1, V.ref t2, V.ref t3, V.ref t4, V.ref t5, V.ref t6, V.ref t7] ++ [V.ref t9, V.ref t10, V.ref t11, V.ref t12]) ++ [V.ref t15, V.ref t16, V.ref t18]) ++ [V.ref L, V.ref t21, V.ref t22, V.ref t24]) ++ [V.ref t27, V.ref t28, V.ref t29, V.ref t30, V.ref t31, V.bl true]) := ao.app go
    refine fun t33 n33 => ?_
    have q := same_new (o := HO.lst (((([V.non, V.int 0, V.str "go", V.ref t1, V.ref t2, V.ref t3, V.ref t4, V.ref t5, V.ref t6, V.ref t7] ++ [V.ref t9, V.ref t10, V.ref t11, V.ref t12]) ++ [V.ref t15, V.ref t16, V.ref t18]) ++ [V.ref L, V.ref t21, V.ref t22, V.ref t24]) ++ [V.ref t27, V.ref t28, V.ref t29, V.ref t30, V.ref t31, V.bl true])) n33
    have h33 : upd H32 t33 (HO.lst (((([V.non, V.int 0, V.str "go", V.ref t1, V.ref t2, V.ref t3, V.ref t4, V.ref t5, V.ref t6, V.ref t7] ++ [V.ref t9, V.ref t10, V.ref t11, V.ref t12]) ++ [V.ref t15, V.ref t16, V.ref t18]) ++ [V.ref L, V.ref t21, V.ref t22, V.ref t24]) ++ [V.ref t27, V.ref t28, V.ref t29, V.ref t30, V.ref t31, V.bl true])) t33 = some (HO.lst (((([V.non, V.int 0, V.str "go", V.ref t1, V.ref t2, V.ref t3, V.ref t4, V.ref t5, V.ref t6, V.ref t7] ++ [V.ref t9, V.ref t10, V.ref t11, V.ref t12]) ++ [V.ref t15, V.ref t16, V.ref t18]) ++ [V.ref L, V.ref t21, V.ref t22, V.ref t24]) ++ [V.ref t27, V.ref t28, V.ref t29, V.ref t30, V.ref t31, V.bl true])) := upd_same
    have e33 := dice_ne di n33
    have di := dice_upd (o := HO.lst (((([V.non, V.int 0, V.str "go", V.ref t1, V.ref t2, V.ref t3, V.ref t4, V.ref t5, V.ref t6, V.ref t7] ++ [V.ref t9, V.ref t10, V.ref t11, V.ref t12]) ++ [V.ref t15, V.ref t16, V.ref t18]) ++ [V.ref L, V.ref t21, V.ref t22, V.ref t24]) ++ [V.ref t27, V.ref t28, V.ref t29, V.ref t30, V.ref t31, V.bl true])) di e33
    generalize upd H32 t33 (HO.lst (((([V.non, V.int 0, V.str "go", V.ref t1, V.ref t2, V.ref t3, V.ref t4, V.ref t5, V.ref t6, V.ref t7] ++ [V.ref t9, V.ref t10, V.ref t11, V.ref t12]) ++ [V.ref t15, V.ref t16, V.ref t18]) ++ [V.ref L, V.ref t21, V.ref t22, V.ref t24]) ++ [V.ref t27, V.ref t28, V.ref t29, V.ref t30, V.ref t31, V.bl true])) = H33 at q h33 di ⊢
    have h1 := q _ _ h1
    have h2 := q _ _ h2
    have h3 := q _ _ h3
    have h4 := q _ _ h4
    have h5 := q _ _ h5
    have h6 := q _ _ h6
    have h7 := q _ _ h7
    have h8 := q _ _ h8
    have h9 := q _ _ h9
    have h10 := q _ _ h10
    have h11 := q _ _ h11
    have h12 := q _ _ h12
    have h13 := q _ _ h13
    have h14 := q _ _ h14
    have h15 := q _ _ h15
    have h16 := q _ _ h16
    have h17 := q _ _ h17
    have h18 := q _ _ h18
    have h19 := q _ _ h19
    have h20 := q _ _ h20
    have h21 := q _ _ h21
    have h22 := q _ _ h22
    have h23 := q _ _ h23
    have h24 := q _ _ h24
    have h25 := q _ _ h25
    have h26 := q _ _ h26
    have h27 := q _ _ h27
    have h28 := q _ _ h28
    have h29 := q _ _ h29
    have h30 := q _ _ h30
    have h31 := q _ _ h31
    have h32 := q _ _ h32
    have hL := hL.up q
    have kp := kp.trans q
    have ao := ao.up q
    refine ⟨_, rfl, _, rfl, p, t33, _, rfl, di, h33, e33, (by show 0 < 27; decide), (by show 27 < 1000; decide), fun i x a b c hx ha => ?_⟩
    have kk : Keep p H33 (upd H33 p (.lst [.int a, .int b, .int c])) := keep_upd
    exact k x _ ((same_keep kp).trans kk) (.upd ha) ((ao x (List.mem_of_getElem? hx)).up (hid_keep kk))
end
end Rd

/-! Lists of data and of dicts with data: == and != of equal ones. -/
namespace PySem.SeqAt
open AutoSeq1 (wpAny_loadPart')
open MeetsSeq MeetsSeq2 MeetsSeq3
section
variable {prog : Program} {w : World}
theorem ne_go (l b : Addr) (xs ys : Array Value) (n m : Nat) (da db : Option Addr) (sa sb : Array (Option Value)) (hs : xs.size = ys.size) (k : Nat) :
    ∀ i : Nat, xs.size - i = k → MeetsIn prog w (Builtin.«list.__eq__.loop» ⟨[.ref l, .ref b, rawInt i, rawInt 3], []⟩)
      (fun A R s => s.heap.get? l = some { cls := .type "list", dict := da, data := .seq xs n, slots := sa } ∧ s.heap.get? b = some { cls := .type "list", dict := db, data := .seq ys m, slots := sb } ∧
        (∀ j (h1 : j < xs.size) (h2 : j < ys.size), EqP prog w A.in1 s xs[j] ys[j] true) ∧ R (.ok (.ret (.bool false))) s) := by
  induction k with
  | zero =>
    intro i hk A R s h
    obtain ⟨hp, g, d, tk, os⟩ := s; obtain ⟨hl, hb, he, h⟩ := h
    wp_walk using wpAny_loadPart' hl, wpAny_loadPart' hb
    have z1 : xs[((i : Nat) : Int).toNat]? = none := by simp; omega
    have z2 : ys[((i : Nat) : Int).toNat]? = none := by simp; omega
    rw [z1, z2]
    wp_walk using wpAny_loadPart' hl, wpAny_loadPart' hb
    show R (.ok (.ret (.bool (xs.size != ys.size)))) _
    rw [hs]
    simpa using h
  | succ k ih =>
    intro i hk A R s h
    obtain ⟨hp, g, d, tk, os⟩ := s; obtain ⟨hl, hb, he, h⟩ := h
    wp_walk using wpAny_loadPart' hl, wpAny_loadPart' hb
    have i1 : i < xs.size := by omega
    have i2 : i < ys.size := by omega
    have z1 : xs[((i : Nat) : Int).toNat]? = some xs[i] := by simp [i1]
    have z2 : ys[((i : Nat) : Int).toNat]? = some ys[i] := by simp [i2]
    rw [z1, z2]
    refine wpAny_bind (he i i1 i2 _ _ ?_)
    wp_walk
    rw [show ((i : Int) + 1) = ((i + 1 : Nat) : Int) by push_cast; rfl]
    exact ⟨plainId_quiet plain_eq_loop _, codeAny_builtin entry_eq_loop (by
      rw [Around.under_plainId plain_eq_loop _]
      exact ih (i + 1) (by omega) A R _ ⟨hl, hb, he, h⟩)⟩
theorem ne_lists {A : Around} {s : Shared} {l b : Addr} {xs ys : Array Value} (hl : s.heap.IsList l xs) (hb : s.heap.IsList b ys) (hs : xs.size = ys.size) (hu : A.units < cLine)
    (he : ∀ j (h1 : j < xs.size) (h2 : j < ys.size), EqP prog w A.in1 s xs[j] ys[j] true) (E Q : Value → Shared → Prop) (h : Q (.bool false) s) : wpAny (model prog w) A (richCompare .NotEq (.ref l) (.ref b)) Q E s := by
  obtain ⟨⟨cls, dd, data, sl⟩, ho, hc, n, hd⟩ := id hl
  obtain ⟨⟨cls2, dd2, data2, sl2⟩, ho2, hc2, n2, hd2⟩ := id hb
  simp only at hc hd hc2 hd2
  subst hc hd hc2 hd2
  have ta : s.TypeIs (.ref l) "list" := ⟨_, ho, rfl⟩
  have tb : s.TypeIs (.ref b) "list" := ⟨_, ho2, rfl⟩
  refine wpAny_richCompare_same_room (op := .NotEq) ta tb F.slot_list_ne (call_meetsIn F.slot_list_ne ta F.entry_list_ne (F.args_list_ne_2 _ _) (S := fun A R s => s.heap.get? l = some { cls := .type "list", dict := dd, data := .seq xs n, slots := sl } ∧
    s.heap.get? b = some { cls := .type "list", dict := dd2, data := .seq ys n2, slots := sl2 } ∧ (∀ j (h1 : j < xs.size) (h2 : j < ys.size), EqP prog w A.in1 s xs[j] ys[j] true) ∧ R (.ok (.ret (.bool false))) s) (fun A R s h => ?_)
    ⟨ho, ho2, he, show Value.bool false ≠ Value.notImplemented ∧ Q (.bool false) s from ⟨(fun x => nomatch x), h⟩⟩) hu
  obtain ⟨hp, g, d, tk, os⟩ := s; obtain ⟨hl, hb, he, h⟩ := h
  have f3 := AutoSeq1.sub_list_list
  have hne : ¬ (xs.size != ys.size) = true := by simp [hs]
  wp_walk using wpAny_loadPart' hl, wpAny_loadPart' hb
  exact ⟨plainId_quiet plain_eq_loop _, codeAny_builtin entry_eq_loop (by
    rw [Around.under_plainId plain_eq_loop _]
    exact ne_go l b xs ys n n2 dd dd2 sl sl2 hs _ 0 rfl A R _ ⟨hl, hb, he, h⟩)⟩
end
end PySem.SeqAt
namespace Dn
open PySem PySem.Spec PyProof.Rows L2
def DatEq (K : PySem.W.Frag) (H : Hp) (x y : V) : Prop := ∃ d e, Dp K H x d ∧ Dp K H y e ∧ SeqAt.shaped d = true ∧ SeqAt.shaped e = true ∧ PyData.eqv d e = true
def DicEq (K : PySem.W.Frag) (H : Hp) (x y : V) : Prop := ∃ a b ks ls, x = .ref a ∧ y = .ref b ∧ H a = some (.dK ks) ∧ H b = some (.dK ls) ∧ ks.length = ls.length ∧ ∀ p ∈ ks, ∃ u, valV ls p.1 = some u ∧ DatEq K H p.2 u
def ItEq (K : PySem.W.Frag) (H : Hp) (x y : V) : Prop := DatEq K H x y ∨ DicEq K H x y
section
variable {X : Cx} {pins : List (Addr × Obj)} {σ : L2.St} {H : Hp} {s : Shared} {A : Around}
theorem dat_run (I : Inv X pins σ H s) (hu : A.units + 64 < cLine) {x y : V} {v u : Value} (h : DatEq X.K H x y) (rx : RelV x v) (ry : RelV y u) : SeqAt.EqP X.prog X.w A s v u true := by
  obtain ⟨d, e, hd, he, sd, se, q⟩ := h
  obtain ⟨as, r1⟩ := Dp.reads I d x v hd rx
  obtain ⟨bs, r2⟩ := Dp.reads I e y u he ry
  have z := SeqAt.eqAt_reads d e A s v u as bs r1 r2 (SeqAt.canLay_of_shaped sd) (SeqAt.canLay_of_shaped se) (SeqAt.room_of_shaped sd hu)
  rw [q] at z
  exact z.eqP
theorem dic_rc (I : Inv X pins σ H s) (hu : A.units + 65 < cLine) {x y : V} {v u : Value} (h : DicEq X.K H x y) (rx : RelV x v) (ry : RelV y u) (E Q : Value → Shared → Prop) (q : Q (.bool true) s) : wpAny (model X.prog X.w) A (richCompare .Eq v u) Q E s := by
  obtain ⟨a, b, ks, ls, rfl, rfl, ha, hb, hl, hp⟩ := h
  cases (show v = Value.ref a from rx)
  cases (show u = Value.ref b from ry)
  obtain ⟨_, ya, va, ra, da⟩ := (show ObjOk X.prog X.w H s.heap a (.dK ks) from I.hok a _ ha)
  obtain ⟨_, yb, vb, rb, db⟩ := (show ObjOk X.prog X.w H s.heap b (.dK ls) from I.hok b _ hb)
  refine PySem.W.rcP_dicts (knd := mixKind X.prog X.w) (r := true) ya yb da db (by omega) (fun _ => hits_run (fun x y v u h => dat_run (A := A.in1) I (by show A.units + 1 + 64 < cLine; omega) h) rb ra hp) E Q ?_
  have e : va.length = vb.length := by rw [← ra.length, ← rb.length]; exact hl
  rw [show (va.length == vb.length && true) = true from by rw [e]; simp]
  exact q
theorem it_run (I : Inv X pins σ H s) (hu : A.units + 65 < cLine) {x y : V} {v u : Value} (h : ItEq X.K H x y) (rx : RelV x v) (ry : RelV y u) : SeqAt.EqP X.prog X.w A s v u true := by
  rcases h with h | h
  · exact dat_run I (by omega) h rx ry
  · have step := dic_rc I hu h rx ry
    obtain ⟨a, b, _, _, rfl, rfl, _⟩ := id h
    cases (show v = Value.ref a from rx)
    cases (show u = Value.ref b from ry)
    by_cases e : a = b
    · subst e; exact (SeqAt.EqAt.same _).eqP
    · exact SeqAt.eqP_refs e step
end
section
variable {X : Cx}
/-- two lists of items that are equal -/
def rLists (K : PySem.W.Frag) (b : Bool) : R2 := fun x y H Q => ∃ a c xs ys, x = .ref a ∧ y = .ref c ∧ SqL K H a xs ∧ SqL K H c ys ∧ Paired (ItEq K H) xs ys ∧ Q (.bl b) H
theorem op_eqLists (hu : X.A.units + 66 < cLine) : OpR X (compareOp .Eq) (rLists X.K true) := by
  intro pins s σ H x y v u Q I rx ry h
  obtain ⟨a, c, xs, ys, rfl, rfl, ha, hc, hp, q⟩ := h
  cases (show v = Value.ref a from rx)
  cases (show u = Value.ref c from ry)
  obtain ⟨us, r1, p1, _⟩ := I.list ha
  obtain ⟨ws, r2, p2, _⟩ := I.list hc
  have sz : us.toArray.size = ws.toArray.size := by rw [List.size_toArray, List.size_toArray, ← r1.length, ← r2.length]; exact Paired.length hp
  show wpAny _ _ (richCompare .Eq (.ref a) (.ref c)) _ _ _
  refine SeqAt.rcP_lists (e := fun _ => true) p1.isList p2.isList sz (by omega) (fun j h1 h2 => ?_) _ _ ?_
  · have k := items_run (P := X.prog) (w := X.w) (A := X.A.in1) (fun x y v u h => it_run (A := X.A.in1) I (by show X.A.units + 1 + 65 < cLine; omega) h) hp r1 r2 j (by simpa using h1) (by simpa using h2)
    simpa using k
  · rw [show ((List.range us.toArray.size).all fun _ => true) = true from List.all_eq_true.mpr fun _ _ => rfl]
    exact ⟨.bl true, H, I, rfl, q⟩
theorem op_neLists (hu : X.A.units + 66 < cLine) : OpR X (compareOp .NotEq) (rLists X.K false) := by
  intro pins s σ H x y v u Q I rx ry h
  obtain ⟨a, c, xs, ys, rfl, rfl, ha, hc, hp, q⟩ := h
  cases (show v = Value.ref a from rx)
  cases (show u = Value.ref c from ry)
  obtain ⟨us, r1, p1, _⟩ := I.list ha
  obtain ⟨ws, r2, p2, _⟩ := I.list hc
  have sz : us.toArray.size = ws.toArray.size := by rw [List.size_toArray, List.size_toArray, ← r1.length, ← r2.length]; exact Paired.length hp
  show wpAny _ _ (richCompare .NotEq (.ref a) (.ref c)) _ _ _
  refine SeqAt.ne_lists p1.isList p2.isList sz (by omega) (fun j h1 h2 => ?_) _ _ ⟨.bl false, H, I, rfl, q⟩
  have k := items_run (P := X.prog) (w := X.w) (A := X.A.in1) (fun x y v u h => it_run (A := X.A.in1) I (by show X.A.units + 1 + 65 < cLine; omega) h) hp r1 r2 j (by simpa using h1) (by simpa using h2)
  simpa using k
end
end Dn

namespace Rd
open PySem PySem.Spec PyProof.Rows L2 Tq Dn Dc Ox
abbrev sPR : Stmt := top 56
/-- what e gives, locked from then on -/
def tFrz (te : TE) : TE := fun σ H Q => te σ H fun v H1 => ∃ d u, v = .ref d ∧ H1 d = some u ∧ Mut (some u) ∧ ∀ od, Q v (upd H1 d (.frz od u))
theorem pe_frz {X : Cx} {e : Expr} {te : TE} (h : PE X e te) : PE X e (tFrz te) := by
  refine ⟨fun pins s σ H Q I hw => ?_⟩
  refine thn (h.run pins s σ H _ I hw) fun v s1 ⟨x, H1, I1, r, d, u, ex, hd, mu, q⟩ => ?_
  obtain ⟨od, I2⟩ := I1.lock hd mu
  exact ⟨x, _, I2, r, q od⟩
/-- a property of the class at C, with its promise -/
abbrev HasP (P : Program) (w : World) (K : PySem.W.Frag) (mg : Str → Option Value) (base : Heap) (C : Addr) (m : Str) (k : Nat) (sp : Sp) : Prop :=
  ∃ p g fd, PropOf K C m p g ∧ Binds K fd ["self"] [] ∧ FnOk P w K mg base CX0 k g fd ["self"] sp
abbrev HasD (P : Program) (w : World) (K : PySem.W.Frag) (mg : Str → Option Value) (base : Heap) (C : Addr) (m : Str) (k : Nat) (sp : Sp) : Prop :=
  ∃ g, Dun K C m g ∧ FnR P w K mg base CX0 k g sp
structure TxW (K : PySem.W.Frag) (mg : Str → Option Value) (P : Program) (w : World) (base : Heap) (C CN : Addr) : Prop extends TxT K mg P w base C CN where
  lines_ : HasP P w K mg base C "lines" 1 (getSp C "_lines")
  tested_ : HasP P w K mg base C "tested" 1 (getSp C "_tested")
  prs_ : HasP P w K mg base C "pairs" 3 (spPrs K C)
  plain_ : HasP P w K mg base C "is_plain" 1 (spPlain K C)
  reads_ : HasP P w K mg base C "readings" 2 (spReadings K C)
  len_ : HasD P w K mg base C "__len__" 1 (spLen K C)
  str_ : HasD P w K mg base C "__str__" 1 (spStr K C)
  td : Has P w K mg base "_law_tested" 1 ["_law_lines_here"] (spTd K)
  rds : Has P w K mg base "_law_readings" 1 ["_law_lines_here"] (spRds K)
def spPR (K : PySem.W.Frag) (C : Addr) : Sp := fun vs H Q _ => ∃ (r L : Addr) (rs : RowsL), vs = [.ref r, .ref L] ∧ RdAt K C H r rs ∧ RdOk rs ∧ LinesAt K H L rs ∧ ∀ H', Same H H' → Q (.bl true) H'
theorem pass0A {X : Cx} {E : XK} (σ : L2.St) : PassesAt CX0 X σ E := fun _ _ _ _ _ _ h => h.elim
theorem word_ne_go (l : Ln) : (!decide (V.str l.word = V.str "go")) = [("read" : Str), "look", "if"].contains l.word := by
  cases l with
  | go n => show (!decide (V.str "go" = V.str "go")) = [("read" : Str), "look", "if"].contains "go"; simp; decide +kernel
  | ift t p n => show (!decide (V.str "if" = V.str "go")) = [("read" : Str), "look", "if"].contains "if"; rw [decide_eq_false fun e => ne1 (V.str.inj e)]; decide +kernel
  | look t p => show (!decide (V.str "look" = V.str "go")) = [("read" : Str), "look", "if"].contains "look"; rw [decide_eq_false fun e => ne2 (V.str.inj e)]; decide +kernel
  | read t p => show (!decide (V.str "read" = V.str "go")) = [("read" : Str), "look", "if"].contains "read"; rw [decide_eq_false fun e => ne3 (V.str.inj e)]; decide +kernel
theorem keys_safe {ws : List Str} {ls : List Ln} {ps : List (List Str)} (h : Asc (keysOf ws ls) ps) (z : ∀ l ∈ ls, l.safe) : ∀ p ∈ ps, ∀ x ∈ p, PyData.strOk x = true := fun p hp x hx => by
  obtain ⟨l, hl, rfl⟩ := List.mem_map.mp ((h.mem p).mp hp)
  exact z l (List.mem_filter.mp hl).1 x hx
theorem pDs_shaped {ps : List (List Str)} (h : ∀ p ∈ ps, ∀ x ∈ p, PyData.strOk x = true) : SeqAt.shaped (pDs ps) = true := by
  have h2 := pDs_depth ps
  show (PyData.canLay0 (pDs ps) && decide (PyData.depth (pDs ps) ≤ 64)) = true
  rw [Bool.and_eq_true]
  exact ⟨by simp only [PyData.canLay0]; exact pDs_lay ps h, decide_eq_true (by simp only [PyData.depth]; omega)⟩
theorem dat_same {K : PySem.W.Frag} {H : Hp} {x y : V} {d : PyData} (h1 : Dp K H x d) (h2 : Dp K H y d) (s : SeqAt.shaped d = true) : DatEq K H x y := ⟨d, d, h1, h2, s, s, SeqAt.eqv_refl d (SeqAt.canLay_of_shaped s)⟩
theorem parts_safe {ls : List Ln} {t : Str} (z : ∀ l ∈ ls, l.safe) : ∀ x ∈ partsOf t ls, PyData.strOk x = true := fun x hx => by
  obtain ⟨p, hp, rfl⟩ := List.mem_map.mp hx
  obtain ⟨l, hl, e⟩ := List.mem_filterMap.mp (List.mem_filter.mp hp).1
  cases l with
  | read t' q => cases e; exact z _ hl _ (.tail _ List.mem_cons_self)
  | go n => cases e
  | ift t' q n => cases e
  | look t' q => cases e
theorem pD_shaped {k : List Str} (h : ∀ x ∈ k, PyData.strOk x = true) : SeqAt.shaped (pD k) = true := by
  show (PyData.canLay0 (pD k) && decide (PyData.depth (pD k) ≤ 64)) = true
  rw [Bool.and_eq_true]
  exact ⟨pD_lay h, decide_eq_true (by rw [pD_depth]; decide)⟩
theorem dic_reads {K : PySem.W.Frag} {H : Hp} {a b : Addr} {k1 k2 : List (Key × V)} {ls : List Ln} (z : ∀ l ∈ ls, l.safe) (e1 : H a = some (.dK k1)) (e2 : H b = some (.dK k2)) (r1 : ReadsD H k1 ls) (r2 : ReadsD H k2 ls) : DicEq K H (.ref a) (.ref b) := by
  obtain ⟨es1, rfl, A1, h1⟩ := r1.ex
  obtain ⟨es2, rfl, A2, h2⟩ := r2.ex
  have ee := A1.eq A2
  have nd2 : (es2.map Prod.fst).Nodup := List.nodup_iff_pairwise_ne.mpr (A2.up.imp fun {x y} z e => by subst e; exact absurd z (List.lt_irrefl _))
  have hv : ∀ es : List (Str × Addr), (es.map Prod.fst).Nodup → ∀ e ∈ es, valV (es.map prE) (Sum.inr e.1) = some (.ref e.2) := fun es => by
    induction es with
    | nil => exact fun _ e he => nomatch he
    | cons x es ih =>
      intro nd e he
      obtain ⟨n1, n2⟩ := List.nodup_cons.mp nd
      rcases List.mem_cons.mp he with rfl | he
      · exact valV_pos (p := prE e) rfl
      · rw [List.map_cons, valV_neg]
        · exact ih n2 e he
        · intro c
          exact n1 (by rw [Sum.inr.inj c]; exact List.mem_map_of_mem he)
  refine ⟨a, b, _, _, rfl, rfl, e1, e2, by have := congrArg List.length ee; simpa using this, fun p hp => ?_⟩
  obtain ⟨x, hx, rfl⟩ := List.mem_map.mp hp
  have : x.1 ∈ es2.map Prod.fst := by rw [← ee]; exact List.mem_map_of_mem hx
  obtain ⟨y, hy, hxy⟩ := List.mem_map.mp this
  refine ⟨.ref y.2, by show valV _ (Sum.inr x.1) = _; rw [← hxy]; exact hv es2 nd2 y hy, ?_⟩
  refine dat_same (d := pD (partsOf x.1 ls)) (.tup (SqT.of (h1 x hx)) (strs_dp _)) (.tup (SqT.of (by rw [← hxy]; exact h2 y hy)) (strs_dp _)) (pD_shaped (parts_safe z))
theorem ReadsD.up {H H' : Hp} {kvs : List (Key × V)} {ls : List Ln} (h : ReadsD H kvs ls) (s : Same H H') : ReadsD H' kvs ls :=
  let ⟨es, e, a, b⟩ := h.ex; ⟨es, e, a, fun x hx => s _ _ (b x hx)⟩
theorem list_shaped {ls : List Ln} (z : ∀ l ∈ ls, l.safe) : SeqAt.shaped (.list (ls.map Ln.d)) = true := by
  have h1 := lns_depth ls
  show (PyData.canLay0 (.list (ls.map Ln.d)) && decide (PyData.depth (.list (ls.map Ln.d)) ≤ 64)) = true
  rw [Bool.and_eq_true]
  exact ⟨by simp only [PyData.canLay0]; exact lns_lay ls z, decide_eq_true (by simp only [PyData.depth]; omega)⟩
theorem nil_shaped : SeqAt.shaped (.list []) = true := list_shaped (ls := []) fun _ h => nomatch h
theorem nil_eqv (ls : List Ln) : PyData.eqv (.list (ls.map Ln.d)) (.list []) = ls.isEmpty := by
  cases ls with
  | nil => simp [PyData.eqv, PyData.eqvAll]
  | cons l ls => simp [PyData.eqv, PyData.eqvAll]
theorem plain_empty : ∀ rs : RowsL, ((rs.filter fun r => !isRd r).map Prod.snd).isEmpty = (lnsOf rs).all fun l => decide (l.word = ("read" : Str))
  | [] => rfl
  | r :: rs => by
    have ih := plain_empty rs
    show _ = (decide (r.2.word = ("read" : Str)) && (lnsOf rs).all fun l => decide (l.word = ("read" : Str)))
    rw [← ih]
    by_cases h : r.2.word = "read"
    · rw [List.filter_cons_of_neg (by simp [isRd, h]), decide_eq_true h, Bool.true_and]
    · rw [List.filter_cons_of_pos (by simp [isRd, h]), decide_eq_false h]; rfl
theorem tabs_safe {ls : List Ln} (z : ∀ l ∈ ls, l.safe) : ∀ x ∈ (rps ls).map Prod.fst, PyData.strOk x = true := fun x hx => by
  obtain ⟨p, hp, rfl⟩ := List.mem_map.mp hx
  obtain ⟨l, hl, e⟩ := List.mem_filterMap.mp hp
  cases l with
  | read t' q => cases e; exact z _ hl _ List.mem_cons_self
  | go n => cases e
  | ift t' q n => cases e
  | look t' q => cases e
theorem int_shaped {i : Int} : SeqAt.shaped (.int i) = true := by
  show (PyData.canLay0 (.int i) && decide (PyData.depth (.int i) ≤ 64)) = true
  simp [PyData.canLay0, PyData.depth]
theorem rdText_ok {n m : Nat} (hn : n < 17) (hm : m < 7) : PyData.strOk (rdText n m) = true :=
  (by decide +kernel : ∀ n : Nat, n < 17 → ∀ m : Nat, m < 7 → PyData.strOk (rdText n m) = true) n hn m hm
theorem strs_shaped {k : List Str} (h : ∀ x ∈ k, PyData.strOk x = true) : SeqAt.shaped (.list (k.map PyData.str)) = true := by
  show (PyData.canLay0 (.list (k.map PyData.str)) && decide (PyData.depth (.list (k.map PyData.str)) ≤ 64)) = true
  rw [Bool.and_eq_true]
  exact ⟨by simp only [PyData.canLay0]; exact sD_lay k h, decide_eq_true (by simp only [PyData.depth, sD_depth]; decide)⟩
section
variable {P : Program} {w : World} {K : PySem.W.Frag} {mg : Str → Option Value} {base : Heap}
abbrev nPR : List Str := ["_law_reader", "_law_lines_here", "_law_pairs", "_law_plain", "_law_told_here", "_law_text", "_law_line_here", "_law_one"]
theorem scPR : FnScope nPR ["_law_reader", "_law_lines_here"] (defScope sPR) := ⟨rfl, rfl, rfl, by decide +kernel, rfl, by decide +kernel, by decide +kernel⟩
theorem ok_pr {C CN f : Addr} {fd : FuncData} (F : Fun K "_law_parts_right" "_law_parts_right" sPR f fd) (T : TxW K mg P w base C CN) : FnG P w K mg base 5 f fd ["_law_reader", "_law_lines_here"] (spPR K C) := by
  obtain ⟨p1, g1, fd1, P1, B1, G1⟩ := T.lines_
  obtain ⟨p2, g2, fd2, P2, B2, G2⟩ := T.tested_
  obtain ⟨p3, g3, fd3, P3, B3, G3⟩ := T.prs_
  obtain ⟨p4, g4, fd4, P4, B4, G4⟩ := T.plain_
  obtain ⟨p5, g5, fd5, P5, B5, G5⟩ := T.reads_
  obtain ⟨g6, D6, G6⟩ := T.len_
  obtain ⟨g7, D7, G7⟩ := T.str_
  obtain ⟨f8, fd8, m8, k8, b8, G8⟩ := T.td
  obtain ⟨f9, fd9, m9, k9, b9, G9⟩ := T.rds
  refine F.okG scPR (fun vs H Q E h => ?_) (fun cdv A outer s H vs Q E hgd hr h => ?_)
  · obtain ⟨r, L, rs, rfl, _⟩ := h; rfl
  · obtain ⟨r, L, rs, rfl, hR, ok, hL, k⟩ := h
    have hu := hr.units
    have hu66 : (A.deeper (envOfC (Str.ofString "_law_parts_right") (defScope sPR) s.heap.objs.size f cdv)).units + 66 < cLine := by have := hr.un; omega
    have hsm := T.sysm
    have r2 := hr.mono (show 2 ≤ 4 by decide)
    have r3 := hr.mono (show 3 ≤ 4 by decide)
    have r1 := hr.mono (show 1 ≤ 4 by decide)
    refine ⟨_, pss_cons (ps_set (i := 2) scPR.nd rfl (Or.inl rfl) (pe_callTy call_tupOf (by rfl) T.tuple PyProof.Rows.boot_tuple (pa_cons (pe_callB (cr_sortX rfl) (by rfl) T.sorted PyProof.Rows.boot_sorted (pa_cons (pe_callTy (cr_setX rfl hr.units) (by rfl) T.set PyProof.Rows.boot_set (pa_cons
        (pe_lc (own := [("_law_line_here", 6)]) (g := gName 6) (tt := tTest (tOp rNe (tOp (rIxT K) (tVar 6) (tC (.int 0))) (tC (.str "go")))) (te := tSl (rSlT K) (tVar 6) (tPart (tC (.int 1))) (tPart (tC (.int 3)))) rfl scPR.nd (pi_tup (pv 1))
          (blkOk_by (N := nPR) (sc := defScope sPR) (by decide +kernel)) (fun _ _ _ _ _ => pg_name (i := 6) scPR.nd rfl (Or.inl rfl))
          (fun _ _ _ _ _ => pts_one (pt_cmpR op_ne (pe_ix ix_tup (pv 6) pe_int (fun _ _ => rfl)) pe_str (nomark _)))
          (fun _ _ _ _ _ => pe_slice sl_tup (pv 6) (po_some pe_int) (po_some pe_int))) pa_nil)) pa_nil)) pa_nil)))
      (pss_cons (ps_set (i := 3) scPR.nd rfl (Or.inl rfl) (pe_cmpR (op_eqD hu) (pe_lc (own := [("_law_line_here", 6)]) (g := gName 6) (tt := tTest (tOp rNe (tOp (rIxT K) (tVar 6) (tC (.int 0))) (tC (.str "read")))) (te := tVar 6) rfl scPR.nd (pi_tup (pv 1))
          (blkOk_by (N := nPR) (sc := defScope sPR) (by decide +kernel)) (fun _ _ _ _ _ => pg_name (i := 6) scPR.nd rfl (Or.inl rfl))
          (fun _ _ _ _ _ => pts_one (pt_cmpR op_ne (pe_ix ix_tup (pv 6) pe_int (fun _ _ => rfl)) pe_str (nomark _)))
          (fun _ _ _ _ _ => pv 6)) (pe_lst pa_nil) (nomark _)))
      (pss_cons (ps_set (i := 4) scPR.nd rfl (Or.inl rfl) (pe_lst (pa_cons (pe_prop (pv 0) T.cl P1 G1 r2 B1 .nil pass0 (by rfl)) (pa_cons (pe_prop (pv 0) T.cl P2 G2 r2 B2 .nil pass0 (by rfl)) (pa_cons (pe_prop (pv 0) T.cl P3 G3 hr B3 .nil pass0 (by rfl)) (pa_cons (pe_prop (pv 0) T.cl P5 G5 r3 B5 .nil pass0 (by rfl)) pa_nil))))))
      (pss_cons (ps_if (pt_cmpR (op_neLists hu66) (pv 4) (pe_lst (pa_cons (pv 1) (pa_cons (pe_call G8 r1 (by rfl) m8 k8 b8 .nil pass0 (pa_cons (pv 1) pa_nil)) (pa_cons (pv 2) (pa_cons (pe_call G9 r1 (by rfl) m9 k9 b9 .nil pass0 (pa_cons (pv 1) pa_nil)) pa_nil))))) (nomark _)) (pss_one (ps_ret pe_bl)) pss_nil)
      (pss_cons (ps_if (PW.pt (pw_or (pt_cmpR op_ne (pe_callB (call_show hgd hu hsm) (by rfl) T.repr PyProof.Rows.boot_repr (pa_cons (pe_prop (pv 0) T.cl P4 G4 r2 B4 .nil pass0 (by rfl)) pa_nil)) (pe_callB (call_show hgd hu hsm) (by rfl) T.repr PyProof.Rows.boot_repr (pa_cons (pv 3) pa_nil)) (nomark _))
          (pw_or1 (pt_cmpR (op_neD hu) (pe_callTy (call_listD rfl) (by rfl) T.list PyProof.Rows.boot_list (pa_cons (pe_ix ix_list (pv 4) pe_int (fun _ _ => rfl)) pa_nil)) (pe_callB (call_sortedD rfl) (by rfl) T.sorted PyProof.Rows.boot_sorted (pa_cons (pe_ix ix_list (pv 4) pe_int (fun _ _ => rfl)) pa_nil)) (nomark _))))) (pss_one (ps_ret pe_bl)) pss_nil)
      (pss_cons (ps_if (pt_cmpR (op_neD hu) (pe_lc (own := [("_law_one", 7)]) (g := gName 7) (tt := tNot (tB (tCB (rIsi K) (tCons (tVar 7) (tCons (tC (.ty "tuple")) tNil))))) (te := tVar 7) rfl scPR.nd (pi_list (pe_slice sl_list (pv 4) po_none (po_some pe_int)))
          (blkOk_by (N := nPR) (sc := defScope sPR) (by decide +kernel)) (fun _ _ _ _ _ => pg_name (i := 7) scPR.nd rfl (Or.inl rfl))
          (fun _ _ _ _ _ => pts_one (pt_not (pt_val (pe_callB call_isi (by rfl) T.isi PyProof.Rows.boot_isinstance (pa_cons (pv 7) (pa_cons (pe_bltn (v := .ty "tuple") (by rfl) T.tuple PyProof.Rows.boot_tuple rfl) pa_nil))))))
          (fun _ _ _ _ _ => pv 7)) (pe_lst pa_nil) (nomark _)) (pss_one (ps_ret pe_bl)) pss_nil)
      (pss_cons (ps_if (pt_cmpR (op_neD hu) (pe_lc (own := [("_law_one", 7)]) (g := gName 7) (tt := tNot (tB (tCB (rIsi K) (tCons (tVar 7) (tCons (tC (.ty "tuple")) tNil))))) (te := tVar 7) rfl scPR.nd (pi_values (pe_frz (pe_prop (pv 0) T.cl P5 G5 r3 B5 .nil pass0 (by rfl))))
          (blkOk_by (N := nPR) (sc := defScope sPR) (by decide +kernel)) (fun _ _ _ _ _ => pg_name (i := 7) scPR.nd rfl (Or.inl rfl))
          (fun _ _ _ _ _ => pts_one (pt_not (pt_val (pe_callB call_isi (by rfl) T.isi PyProof.Rows.boot_isinstance (pa_cons (pv 7) (pa_cons (pe_bltn (v := .ty "tuple") (by rfl) T.tuple PyProof.Rows.boot_tuple rfl) pa_nil))))))
          (fun _ _ _ _ _ => pv 7)) (pe_lst pa_nil) (nomark _)) (pss_one (ps_ret pe_bl)) pss_nil)
      (pss_cons (ps_expr (pe_dclear (pe_ix ix_list (pv 4) pe_int (fun _ _ => rfl))))
      (pss_cons (ps_set (i := 5) scPR.nd rfl (Or.inl rfl) (pe_op op_add_str (pe_op op_add_str pe_str (pe_callTy call_str_int (by rfl) T.str PyProof.Rows.boot_str (pa_cons (pe_callB call_lenT (by rfl) T.len PySem.boot_len (pa_cons (pv 1) pa_nil)) pa_nil))) pe_str))
      (pss_cons (ps_set (i := 5) scPR.nd rfl (Or.inl rfl) (pe_op op_add_str (pe_op op_add_str (pv 5) (pe_callTy call_str_int (by rfl) T.str PyProof.Rows.boot_str (pa_cons (pe_callB call_lenT (by rfl) T.len PySem.boot_len (pa_cons (pe_call G8 r1 (by rfl) m8 k8 b8 .nil pass0 (pa_cons (pv 1) pa_nil)) pa_nil)) pa_nil))) pe_str))
      (pss_one (ps_ret (pe_cmpR (op_eqLists hu66) (pe_lst (pa_cons (pe_prop (pv 0) T.cl P5 G5 r3 B5 .nil pass0 (by rfl)) (pa_cons (pe_callB (call_lenO (E := E0) D6 G6 r2 pass0A) (by rfl) T.len PySem.boot_len (pa_cons (pv 0) pa_nil)) (pa_cons (pe_callTy (call_strO (E := E0) D7 G7 r3 pass0A) (by rfl) T.str PyProof.Rows.boot_str (pa_cons (pv 0) pa_nil)) pa_nil))))
        (pe_lst (pa_cons (pe_call G9 r1 (by rfl) m9 k9 b9 .nil pass0 (pa_cons (pv 1) pa_nil)) (pa_cons (pe_callB call_lenT (by rfl) T.len PySem.boot_len (pa_cons (pv 1) pa_nil)) (pa_cons (pv 5) pa_nil)))) (nomark _))))))))))))), ?_⟩
    have few64 : rs.length < 64 := by have := ok.few; omega
    have safe := lns_safe ok
    refine td_rd (K := K) (P := P) (w := w) (i := 1) (j := 6) (tst := tOp rNe (tOp (rIxT K) (tVar 6) (tC (.int 0))) (tC (.str "go"))) ["read", "look", "if"] rfl (by show 6 < 8; decide) hL few64 (by decide +kernel)
      (fun σ' H' q R' e hq z => ⟨_, e, q.1, _, _, _, rfl, rfl, hq, atI_nat (j := 0) (ln_word q.2), rfl, by rw [word_ne_go]; exact z⟩) (fun H1 pp ps s1 np hA hP => ?_)
    refine ⟨_, rfl, L, rfl, ⟨_, sqT_up hL.1 s1⟩, fun D hD => ?_⟩
    have off : Off D (fun i acc (_ : Hp) => acc = ((rs.take i).filter fun r => !isRd r).map fun r => V.ref r.1) := fun _ _ _ _ _ _ _ z => z
    refine lc_fil walk_tup hD (fun i acc _ => acc = ((rs.take i).filter fun r => !isRd r).map fun r => V.ref r.1) rfl (fun H' s' => sqT_up hL.1 (s1.trans s')) ?_ ?_
    · rintro i v acc H2 H3 hi s2 e2 rfl ⟨rfl, hv⟩
      rw [List.getElem?_map] at hv
      obtain ⟨q, hq, rfl⟩ := Option.map_eq_some_iff.mp hv
      have hr := sqT_up (hL.2 q (List.mem_of_getElem? hq)) (s1.trans s2)
      have nx : (rs.take (i + 1)).filter (fun r => !isRd r) = (rs.take i).filter (fun r => !isRd r) ++ [q].filter fun r => !isRd r := by rw [List.take_add_one, hq, List.filter_append]; rfl
      refine ⟨rfl, ?_⟩
      refine ⟨_, rfl, q.1, _, _, _, rfl, rfl, hr, atI_nat (j := 0) (ln_word q.2), rfl, _, rfl, ?_⟩
      have ed : (!decide (V.str q.2.word = V.str "read")) = !isRd q := by unfold isRd; simp
      refine ite2 (fun c => ?_) (fun c => ?_)
      · refine ⟨_, rfl, put_of hD off s2 e2 (Same.refl _) ?_ ?_⟩
        · rw [List.length_map, sizeLine_eq]
          have := List.length_filter_le (fun r => !isRd r) (rs.take i)
          rw [List.length_take] at this
          have := ok.few
          omega
        · rw [nx, List.filter_cons_of_pos (by rw [← ed]; exact c), List.map_append]; rfl
      · refine fil_of s2 e2 (Same.refl _) ?_
        rw [nx, List.filter_cons_of_neg (by rw [← ed]; exact c)]; simp
    rintro acc H2 s2 e2 rfl
    rw [List.length_map, List.take_length] at e2
    refine ⟨(by show 0 ≤ sizeLine; decide), fun l0 n0 => ?_⟩
    have s0 := same_new (o := HO.lst []) n0
    have hne : ∀ r ∈ rs.filter (fun r => !isRd r), r ∈ rs := fun r hr => (List.mem_filter.mp hr).1
    refine ⟨_, .list [], .lst (SqL.of (s0 _ _ e2)) (lns_dp fun r hr => sqT_up (hL.2 r (hne r hr)) ((s1.trans s2).trans s0)), .lst (SqL.of upd_same) .nil, list_shaped (fun l hl => ?_), nil_shaped, ?_⟩
    · obtain ⟨r, hr, rfl⟩ := List.mem_map.mp hl
      exact fine_safe (ok.fine r (hne r hr))
    rw [nil_eqv]
    have eb : ((rs.filter fun r => !isRd r).map Prod.snd).isEmpty = (lnsOf rs).all fun l => decide (l.word = ("read" : Str)) := by
      rw [plain_empty]
    rw [eb]
    have s03 := (s1.trans s2).trans s0
    have s1to3 := s2.trans s0
    generalize upd H2 l0 (HO.lst []) = H3 at s03 s1to3 ⊢
    have hR3 := hR.up s03
    obtain ⟨dx, L1, T1, ps1, eR, hL1, hA1, hP1⟩ := id hR3
    refine ⟨_, rfl, r, dx, _, rfl, eR, r, dx, _, _, rfl, eR, rd_lines L1 T1, _, rfl, r, dx, _, rfl, eR, r, dx, _, _, rfl, eR, rd_tested L1 T1, _, rfl, r, dx, _, rfl, eR, r, rs, rfl, hR3, ok, fun H4 p3 ps3 s4 n3 hA3 hP3 => ?_⟩
    have hR4 := hR3.up s4
    refine ⟨_, rfl, r, dx, _, rfl, s4 _ _ eR, r, rs, rfl, hR4, ok, fun H5 D5 kvs5 s5 nD5 eD5 rd5 => ?_⟩
    refine ⟨(by show 4 ≤ sizeLine; decide), fun lt nlt => ?_⟩
    have s6 := same_new (o := HO.lst [V.ref L1, V.ref T1, V.ref p3, V.ref D5]) nlt
    have elt : upd H5 lt (HO.lst [V.ref L1, V.ref T1, V.ref p3, V.ref D5]) lt = some (.lst [.ref L1, .ref T1, .ref p3, .ref D5]) := upd_same
    generalize upd H5 lt (HO.lst [V.ref L1, V.ref T1, V.ref p3, V.ref D5]) = H6 at s6 elt ⊢
    have s36 := (s4.trans s5).trans s6
    have s06 := s03.trans s36
    refine ⟨_, rfl, _, rfl, _, rfl, L, rs, rfl, hL.up s06, few64, fun H7 q7 ps7 s7 n7 hA7 hP7 => ?_⟩
    have s07 := s06.trans s7
    refine ⟨_, rfl, _, rfl, L, rs, rfl, hL.up s07, ok.few, fun H8 D8 kvs8 s8 nD8 eD8 rd8 => ?_⟩
    refine ⟨(by show 4 ≤ sizeLine; decide), fun l9 n9 => ?_⟩
    have s9 := same_new (o := HO.lst [V.ref L, V.ref q7, V.ref pp, V.ref D8]) n9
    have el9 : upd H8 l9 (HO.lst [V.ref L, V.ref q7, V.ref pp, V.ref D8]) l9 = some (.lst [.ref L, .ref q7, .ref pp, .ref D8]) := upd_same
    generalize upd H8 l9 (HO.lst [V.ref L, V.ref q7, V.ref pp, V.ref D8]) = H9 at s9 el9 ⊢
    have s89 := s8.trans s9
    have s79 := s7.trans s89
    have s69 := s6.trans s79
    have s09 := s06.trans s79
    have s39 := s36.trans s79
    have elt9 := s79 _ _ elt
    have e17 : ps1 = ps7 := hA1.eq hA7
    have e33 : ps = ps3 := hA.eq hA3
    refine ⟨lt, l9, _, _, rfl, rfl, SqL.of elt9, SqL.of el9, .cons (.inl (dat_same (hL1.up s39).dp (hL.up s09).dp (dls_shaped safe))) (.cons (.inl (dat_same (hP1.up s39).dp (by rw [e17]; exact (hP7.up s89).dp) (pDs_shaped (keys_safe hA1 safe))))
      (.cons (.inl (dat_same (hP3.up ((s5.trans s6).trans s79)).dp (by rw [← e33]; exact (hP.up (s1to3.trans s39)).dp) (pDs_shaped (keys_safe hA3 safe)))) (.cons (.inr (dic_reads safe (s69 _ _ eD5) (s9 _ _ eD8) (rd5.up s69) (rd8.up s9))) .nil))), _, rfl, iteF ?_⟩
    -- repr(is_plain), list and sorted of the readings
    have hR9 := hR.up s09
    have eR9 := s39 _ _ eR
    refine ⟨_, rfl, r, dx, _, rfl, eR9, r, rs, rfl, hR9, ok, fun H10 s10 => ?_⟩
    refine ⟨_, _, rfl, .inr (.inl ⟨_, rfl, rfl⟩), _, rfl, _, _, rfl, .inr (.inl ⟨_, rfl, rfl⟩), rfl, _, rfl, ?_⟩
    refine ite2 (fun c => absurd c (by simp)) (fun _ => ?_)
    obtain ⟨es5, ek5, A5, h5⟩ := rd5.ex
    have s610 := s69.trans s10
    have l16 : (es5.map Prod.fst).length ≤ 16 := by
      have nd5 : (es5.map Prod.fst).Nodup := List.nodup_iff_pairwise_ne.mpr (A5.up.imp fun {x y} z e => by subst e; exact absurd z (List.lt_irrefl _))
      refine Nat.le_trans (sub_len nd5 fun x hx => (A5.mem x).mp hx) ?_
      rw [List.length_map]
      refine Nat.le_trans (List.length_filterMap_le _ _) ?_
      rw [List.length_map]; exact ok.few
    have kk5 : (kvs5.map fun kv => kV kv.1) = (es5.map Prod.fst).map V.str := by rw [ek5, List.map_map, List.map_map]; rfl
    have ks5 : kvs5.map (·.1) = (es5.map Prod.fst).map Sum.inr := by rw [ek5, List.map_map, List.map_map]; rfl
    refine ⟨_, rfl, lt, _, _, _, rfl, rfl, SqL.of (s10 _ _ elt9), atI_nat (j := 3) rfl, D5, kvs5, rfl, .inl (s610 _ _ eD5), fun p11 n11 => ?_⟩
    rw [kk5]
    have s11 := same_new (o := HO.lst ((es5.map Prod.fst).map V.str)) n11
    have e11 : upd H10 p11 (HO.lst ((es5.map Prod.fst).map V.str)) p11 = some (.lst ((es5.map Prod.fst).map V.str)) := upd_same
    generalize upd H10 p11 (HO.lst ((es5.map Prod.fst).map V.str)) = H11 at s11 e11 ⊢
    refine ⟨_, rfl, lt, _, _, _, rfl, rfl, SqL.of ((s10.trans s11) _ _ elt9), atI_nat (j := 3) rfl, D5, kvs5, es5.map Prod.fst, rfl, .inl ((s610.trans s11) _ _ eD5), ks5, by omega, fun ys p12 pm so n12 => ?_⟩
    have s12 := same_new (o := HO.lst (ys.map V.str)) n12
    have ey : ys = es5.map Prod.fst := by
      have nd5 : (es5.map Prod.fst).Nodup := List.nodup_iff_pairwise_ne.mpr (A5.up.imp fun {x y} z e => by subst e; exact absurd z (List.lt_irrefl _))
      exact ascS_one (rise_strict so (pm.nodup_iff.mpr nd5)) A5.up fun k => pm.mem_iff
    have sts := strs_shaped (k := es5.map Prod.fst) fun x hx => tabs_safe safe x ((A5.mem x).mp hx)
    refine ⟨.list ((es5.map Prod.fst).map PyData.str), .list (ys.map PyData.str), .lst (SqL.of (s12 _ _ e11)) (strs_dp _), .lst (SqL.of upd_same) (strs_dp _), sts, by rw [ey]; exact sts, _, rfl, ?_⟩
    rw [ey, SeqAt.eqv_refl _ (SeqAt.canLay_of_shaped sts)]
    refine iteF ?_
    rw [← ey]
    have s912 := (s10.trans s11).trans s12
    generalize upd H11 p12 (HO.lst (ys.map V.str)) = H12 at s912 ⊢
    -- the first three are tuples
    have elt12 := s912 _ _ elt9
    have s312 := s39.trans s912
    refine ⟨_, rfl, _, rfl, lt, _, rfl, SqL.of elt12, fun p13 n13 => ?_⟩
    have s13 : Same H12 (upd H12 p13 (HO.lst (cutV [V.ref L1, V.ref T1, V.ref p3, V.ref D5] none (some 3)))) := same_new n13
    have e13 : upd H12 p13 (HO.lst (cutV [V.ref L1, V.ref T1, V.ref p3, V.ref D5] none (some 3))) p13 = some (.lst (cutV [V.ref L1, V.ref T1, V.ref p3, V.ref D5] none (some 3))) := upd_same
    generalize upd H12 p13 (HO.lst (cutV [V.ref L1, V.ref T1, V.ref p3, V.ref D5] none (some 3))) = H13 at s13 e13 ⊢
    have ct : cutV [V.ref L1, V.ref T1, V.ref p3, V.ref D5] none (some 3) = [V.ref L1, V.ref T1, V.ref p3] := rfl
    rw [ct] at e13
    have s313 := s312.trans s13
    refine ⟨p13, rfl, ⟨_, SqL.of e13⟩, fun D13 hD13 => ?_⟩
    have none_ : ∀ {D : Addr}, Off D (fun (_ : Nat) (acc : List V) (_ : Hp) => acc = []) := fun _ _ _ _ _ _ _ z => z
    refine lc_fil walk_list hD13 (fun _ acc _ => acc = []) rfl (fun H' s' => sqL_up (SqL.of e13) s') ?_ ?_
    · rintro i v acc Ha Hb hi sa ea rfl ⟨rfl, hv⟩
      have tv : TyX K Hb v (.type "tuple") := by
        have sb := s313.trans sa
        rcases i with _ | _ | _ | i
        · cases hv; exact dp_ty (hL1.up sb).dp
        · cases hv; exact dp_ty (hP1.up sb).dp
        · cases hv; exact dp_ty (hP3.up ((s5.trans s6).trans (s79.trans (s912.trans (s13.trans sa))))).dp
        · simp at hv
      refine ⟨rfl, _, rfl, v, .ty "tuple", .type "tuple", .type "tuple", true, rfl, .ty _, tv, kit_ty (by decide +kernel), _, rfl, iteF ?_⟩
      exact fil_of sa ea (Same.refl _) rfl
    rintro acc H14 s14 e14 rfl
    refine ⟨(by show 0 ≤ sizeLine; decide), fun l15 n15 => ?_⟩
    have s15 := same_new (o := HO.lst []) n15
    refine ⟨.list [], .list [], .lst (SqL.of (s15 _ _ e14)) .nil, .lst (SqL.of upd_same) .nil, nil_shaped, nil_shaped, _, rfl, ?_⟩
    rw [show PyData.eqv (.list []) (.list []) = true from SeqAt.eqv_refl _ (SeqAt.canLay_of_shaped nil_shaped)]
    refine iteF ?_
    have s315 := (s313.trans s14).trans s15
    have s915 := ((s912.trans s13).trans s14).trans s15
    generalize upd H14 l15 (HO.lst []) = H15 at s315 s915 ⊢
    -- the values of the readings are tuples
    have hR15 := hR3.up s315
    refine ⟨_, rfl, r, dx, _, rfl, s315 _ _ eR, r, rs, rfl, hR15, ok, fun H16 D16 kvs16 s16 n16 e16 rd16 => ?_⟩
    refine ⟨D16, .dK kvs16, rfl, e16, trivial, fun od => ?_⟩
    obtain ⟨es16, ek16, A16, h16⟩ := rd16.ex
    have s17 : Same H15 (upd H16 D16 (.frz od (.dK kvs16))) := same_to n16 s16
    have e17 : upd H16 D16 (.frz od (.dK kvs16)) D16 = some (.frz od (.dK kvs16)) := upd_same
    have t17 : ∀ e ∈ es16, upd H16 D16 (.frz od (.dK kvs16)) e.2 = some (.tup ((partsOf e.1 (lnsOf rs)).map V.str)) := fun e he => by
      rw [upd_ne fun z => by have := h16 e he; rw [z, e16] at this; cases this]; exact h16 e he
    generalize upd H16 D16 (HO.frz od (.dK kvs16)) = H17 at s17 e17 t17 ⊢
    refine ⟨D16, od, kvs16, rfl, e17, fun D18 hD18 => ?_⟩
    refine lc_fil walk_values hD18 (fun _ acc _ => acc = []) rfl (fun H' s' => s' _ _ e17) ?_ ?_
    · rintro i v acc Ha Hb hi sa ea rfl ⟨rfl, kx, hv⟩
      have tv : TyX K Hb v (.type "tuple") := by
        rw [ek16, List.getElem?_map] at hv
        obtain ⟨e, he, q⟩ := Option.map_eq_some_iff.mp hv
        cases q
        exact .base (.tup (sa _ _ (t17 e (List.mem_of_getElem? he))))
      refine ⟨rfl, _, rfl, v, .ty "tuple", .type "tuple", .type "tuple", true, rfl, .ty _, tv, kit_ty (by decide +kernel), _, rfl, iteF ?_⟩
      exact fil_of sa ea (Same.refl _) rfl
    rintro acc H18 s18 e18 rfl
    refine ⟨(by show 0 ≤ sizeLine; decide), fun l19 n19 => ?_⟩
    have s19 := same_new (o := HO.lst []) n19
    refine ⟨.list [], .list [], .lst (SqL.of (s19 _ _ e18)) .nil, .lst (SqL.of upd_same) .nil, nil_shaped, nil_shaped, _, rfl, ?_⟩
    rw [show PyData.eqv (.list []) (.list []) = true from SeqAt.eqv_refl _ (SeqAt.canLay_of_shaped nil_shaped)]
    refine iteF ?_
    have s919 := ((s915.trans s17).trans s18).trans s19
    generalize upd H18 l19 (HO.lst []) = H19 at s919 ⊢
    -- told[3].clear()
    have eD19 := (s69.trans s919) _ _ eD5
    have elt19 := s919 _ _ elt9
    refine ⟨_, rfl, lt, _, _, V.ref D5, rfl, rfl, SqL.of elt19, atI_nat (j := 3) rfl, Or.inr (Or.inr (Or.inl ⟨rfl, Or.inl ⟨_, eD19⟩⟩)), D5, kvs5, rfl, rfl, eD19, ?_⟩
    have nD50 : H D5 = none := ((s03.trans s4)).free nD5
    have s20 : Same H (upd H19 D5 (.dK [])) := same_to nD50 (s09.trans s919)
    generalize upd H19 D5 (HO.dK []) = H20 at s20 ⊢
    -- the text
    have n1 := num_few rs.length (by have := ok.few; omega)
    have ll : (rs.map fun r => V.ref r.1).length = rs.length := List.length_map _
    have c1 : (("reader of " : Str)).length = 10 := by decide +kernel
    have c2 : ((" lines, " : Str)).length = 8 := by decide +kernel
    have c3 : ((" tested" : Str)).length = 7 := by decide +kernel
    refine ⟨_, rfl, L, _, rfl, sqT_up hL.1 s20, ?_⟩
    rw [ll]
    refine ⟨_, rfl, n1.2, _, _, rfl, rfl, by have := n1.1; rw [c1, sizeLine_eq]; omega, _, _, rfl, rfl, by have := n1.1; rw [app_len, c1, c2, sizeLine_eq]; omega, ?_⟩
    refine ⟨_, rfl, _, rfl, L, rs, rfl, hL.up s20, few64, fun H21 p21 ps21 s21 n21 hA21 hP21 => ?_⟩
    obtain ⟨prs, ep, hp1, hp2⟩ := id hP21
    have n2 := num_few ps21.length (by have := ok.six ps21 hA21; omega)
    refine ⟨p21, _, rfl, hp1, ?_⟩
    rw [show (prs.map fun r => V.ref r.1).length = ps21.length by rw [← ep, List.length_map, List.length_map]]
    refine ⟨_, rfl, n2.2, _, _, rfl, rfl, by have := n1.1; have := n2.1; rw [app_len, app_len, c1, c2, sizeLine_eq]; omega, _, _, rfl, rfl, by have := n1.1; have := n2.1; rw [app_len, app_len, app_len, c1, c2, c3, sizeLine_eq]; omega, ?_⟩
    have s021 := s20.trans s21
    have hR21 := hR.up s021
    obtain ⟨dx2, L2', T2, ps2, eR21, hL2, hA2, hP2⟩ := id hR21
    refine ⟨_, rfl, r, dx2, _, rfl, eR21, r, rs, rfl, hR21, ok, fun H22 D22 kvs22 s22 n22 e22 rd22 => ?_⟩
    have hR22 := hR21.up s22
    refine ⟨_, rfl, r, dx2, _, rfl, s22 _ _ eR21, r, rs, rfl, hR22, _, rfl, by omega, by have := ok.few; omega, ?_⟩
    refine ⟨_, rfl, r, dx2, _, rfl, s22 _ _ eR21, r, rs, rfl, hR22, ok, fun ps22 hA22 => ⟨_, rfl, ?_⟩⟩
    refine ⟨(by show 3 ≤ sizeLine; decide), fun l23 n23 => ?_⟩
    have s23 := same_new (o := HO.lst [V.ref D22, V.int (rs.length : Int), V.str (rdText rs.length ps22.length)]) n23
    have e23 : upd H22 l23 (HO.lst [V.ref D22, V.int (rs.length : Int), V.str (rdText rs.length ps22.length)]) l23 = some (.lst [V.ref D22, V.int (rs.length : Int), V.str (rdText rs.length ps22.length)]) := upd_same
    generalize upd H22 l23 (HO.lst [V.ref D22, V.int (rs.length : Int), V.str (rdText rs.length ps22.length)]) = H23 at s23 e23 ⊢
    have s023 := (s021.trans s22).trans s23
    refine ⟨_, rfl, L, rs, rfl, hL.up s023, ok.few, fun H24 D24 kvs24 s24 n24 e24 rd24 => ?_⟩
    refine ⟨_, rfl, L, _, rfl, sqT_up hL.1 (s023.trans s24), ?_⟩
    rw [ll]
    refine ⟨_, rfl, (by show 3 ≤ sizeLine; decide), fun l25 n25 => ?_⟩
    have s25 := same_new (o := HO.lst [V.ref D24, V.int (rs.length : Int), V.str (rdText rs.length ps21.length)]) n25
    have e25 : upd H24 l25 (HO.lst [V.ref D24, V.int (rs.length : Int), V.str (rdText rs.length ps21.length)]) l25 = some (.lst [V.ref D24, V.int (rs.length : Int), V.str (rdText rs.length ps21.length)]) := upd_same
    have e2122 : ps22 = ps21 := hA22.eq hA21
    have s2325 := (s23.trans s24).trans s25
    refine ⟨l23, l25, _, _, rfl, rfl, SqL.of ((s24.trans s25) _ _ e23), SqL.of e25, .cons (.inr (dic_reads safe (s2325 _ _ e22) (s25 _ _ e24) (rd22.up s2325) (rd24.up s25))) (.cons (.inl (dat_same (.int _) (.int _) int_shaped)) (.cons (.inl ?_) .nil)), k _ ((s023.trans s24).trans s25)⟩
    rw [e2122]
    exact dat_same (.str _) (.str _) (shaped_str (rdText_ok (by have := ok.few; omega) (by have := ok.six ps21 hA21; omega)))
end
end Rd

/-! enumerate over a tuple -/
namespace Dn
open PySem PySem.Spec PyProof.Rows L2
section
variable {prog : Program} {w : World} {A : Around} {E : Value → Shared → Prop} {s : Shared}
theorem meets_enumT (t : Addr) (items : Array Value) : Meets (Builtin.«enumerate.__new__» ⟨[.type "enumerate", .ref t], []⟩) (fun _ R s => s.heap.IsTuple t items ∧
    R (.ok (.ret (.ref (s.heap.objs.size + 1)))) { s with heap := (s.heap.push { cls := .type "tuple_iterator", data := .fields #[.ref t, .int 0 0] }).push { cls := .type "enumerate", data := .fields #[.none, .bool false, .ref s.heap.objs.size, rawInt 0, .none, .none] } }) :=
  .of_wp fun prog w A R s h => by
    obtain ⟨hp, g, d, tk, os⟩ := s
    obtain ⟨h1, h⟩ := h
    have hsub := sub_enumerate
    have q1 : ∀ {A' : Around} {E : Value → Shared → Prop} {Q : Value → Shared → Prop}, Q (.ref hp.objs.size) ⟨hp.push { cls := .type "tuple_iterator", data := .fields #[.ref t, .int 0 0] }, g, d, tk, os⟩ → wpAny (model prog w) A' (pyIter (.ref t)) Q E ⟨hp, g, d, tk, os⟩ := fun q => wpAny_pyIter_tuple h1 q
    have e : ∀ o : Obj, (hp.push o).objs.size = hp.objs.size + 1 := fun o => Heap.size_push ..
    wp_walk
    refine wpAny_stack_any fun st => wpAny_pure ?_
    split
    · rename_i c _ _ _ _ _
      cases (c == Value.type "enumerate")
      · wp_walk using q1
        exact ⟨_, rfl, by rw [← e] at h; exact h⟩
      · wp_walk using q1
        exact ⟨_, rfl, by rw [← e] at h; exact h⟩
    · wp_walk using q1
      exact ⟨_, rfl, by rw [← e] at h; exact h⟩
theorem call_enumT {t : Addr} {items : Array Value} {Q : Value → Shared → Prop} (hT : s.heap.IsTuple t items)
    (h : ∀ h', IsEnum h' (s.heap.objs.size + 1) s.heap.objs.size 0 .none → h'.IsTupleIter s.heap.objs.size t 0 → (∀ b o, s.heap.get? b = some o → h'.get? b = some o) → Q (.ref (s.heap.objs.size + 1)) { s with heap := h' }) :
    wpAny (model prog w) A (call (.type "enumerate") [.ref t]) Q E s := by
  refine callType_new F.called_enumerate (by decide) (F.typeCall_enumerate_1 _) (F.newCall_enumerate_1 _) (fun obj => F.args_object_init_2 obj _) F.entry_enumerate_new (meets_enumT t items) ⟨hT, ?_⟩
  have hz : (s.heap.push { cls := .type "tuple_iterator", data := .fields #[.ref t, .int 0 0] }).objs.size = s.heap.objs.size + 1 := Heap.size_push ..
  have he : IsEnum ((s.heap.push { cls := .type "tuple_iterator", data := .fields #[.ref t, .int 0 0] }).push { cls := .type "enumerate", data := .fields #[.none, .bool false, .ref s.heap.objs.size, rawInt 0, .none, .none] }) (s.heap.objs.size + 1) s.heap.objs.size 0 .none := by
    have := Heap.get?_push_size (s.heap.push { cls := .type "tuple_iterator", data := .fields #[.ref t, .int 0 0] }) (o := { cls := .type "enumerate", data := .fields #[.none, .bool false, .ref s.heap.objs.size, rawInt 0, .none, .none] }) rfl
    rw [hz] at this; exact this
  exact ⟨⟨_, he, rfl⟩, h _ he ⟨_, Heap.get?_push_of_some _ (Heap.get?_push_size _ rfl), rfl, rfl⟩ fun b o x => Heap.get?_push_of_some _ (Heap.get?_push_of_some _ x)⟩
theorem enum_endT {e it l : Addr} {i : Nat} {c : Int} {items : Array Value} {old : Value} {Q : Option Value → Shared → Prop} (hh : A.handled = none) (he : IsEnum s.heap e it c old) (hit : s.heap.IsTupleIter it l i) (hl : s.heap.IsTuple l items) (hx : items[i]? = none)
    (hQ : ∀ h', Heap.ExtBut it s.heap h' → Q none { s with heap := h' }) : wpAny (model prog w) A (pyNext (.ref e)) Q E s := by
  have hT : s.TypeIs (.ref e) "enumerate" := ⟨_, he, rfl⟩
  unfold pyNext
  refine wpAny_bind (wpAny_attempt (wpAny_callSpecial?_slot (name := Str.ofString "__next__") hT F.slot_enumerate_next (wpAny_call_entry F.slot_enumerate_next hT F.entry_enumerate_next ?_ (F.args_enumerate_next_1 _))))
  show wpAny _ _ (field (.ref e) 2 >>= _) _ _ _
  refine wpAny_bind (wpAny_field he rfl (x := .ref it) rfl ?_)
  refine wpAny_bind (wpAny_nextOf_tuple_end hh hit hl hx fun h' x he' ⟨o, ho, hc⟩ => ?_)
  refine wpAny_bind (wpAny_isInstance (T := "StopIteration") (b := true) ⟨o, ho, hc⟩ isSubtype_stop ?_)
  exact wpAny_pure (hQ _ he')
end
/-- the tuple at a, each item in a new pair -/
def Itp (K : PySem.W.Frag) (a : Addr) : It :=
  ⟨fun i H => ∃ (xs : List V) (x : V), SqT K H a xs ∧ xs[i]? = some x, fun i H v H' => ∃ T x, v = .ref T ∧ H T = none ∧ H' = upd H T (.tup [.int (i : Nat), x]) ∧ ∀ xs, SqT K H a xs → xs[i]? = some x, fun i H => ∃ xs : List V, SqT K H a xs ∧ xs.length ≤ i⟩
theorem turn_enumT {P : Program} {w : World} {K : PySem.W.Frag} {elts : List Expr} {kk : Nat} {tpos : Pos} (a e it : Addr) :
    Turn P w K (.Tuple elts kk tpos) (Itp K a) [e, it] e (fun i h => (∃ old, IsEnum h e it ((i : Nat) : Int) old) ∧ h.IsTupleIter it a i ∧ e ≠ it) where
  mem := by simp
  obj := fun i h st b hb => by
    obtain ⟨⟨old, he⟩, ⟨o, ho, hc, hd⟩, _⟩ := st
    rcases (by simpa using hb : b = e ∨ b = it) with rfl | rfl
    · exact ⟨_, he, fun v q => nomatch q⟩
    · exact ⟨o, ho, fun v q => by rw [hd] at q; cases q⟩
  keep := fun i h h' st k => let ⟨⟨old, he⟩, hi, hne⟩ := st; ⟨⟨old, k e (by simp) _ he⟩, hi.at fun o q => k it (by simp) o q, hne⟩
  item := by
    intro X hP hw hK hc i pins s σ H E I hf st hg
    subst hP hw hK
    obtain ⟨⟨old, he⟩, hit, hne⟩ := st
    obtain ⟨xs, x, hq, hx⟩ := hg
    obtain ⟨its, rv, p, hz⟩ := I.tuple hq
    obtain ⟨u, hu, ru⟩ := rv.get hx
    have hel : e < s.heap.objs.size := Heap.lt_size he
    have hil : it < s.heap.objs.size := by obtain ⟨_, q, _⟩ := hit; exact Heap.lt_size q
    have p' : s.heap.IsTuple a its.toArray := p
    have hai : a ≠ it := fun z => by
      obtain ⟨o1, q1, c1, _⟩ := hit
      obtain ⟨o2, q2, c2, _⟩ := p'
      rw [z, q1] at q2; cases q2
      rw [c1] at c2; exact absurd c2 (by decide)
    have hae : a ≠ e := fun z => by
      obtain ⟨o2, q2, c2, _⟩ := p'
      rw [z, he] at q2; cases q2
      exact absurd (Value.type.inj c2) (by decide)
    have hlt : i < its.toArray.size := by
      have := (List.getElem?_eq_some_iff.mp hu).1
      simpa using this
    refine wpAny_pyNext_enum_itemC (c := (i : Int)) (Draws.tuple (show X.A.in1.handled = none from I.ok.hd hc) it a hai its.toArray) he ⟨hit, p'⟩ hlt hne (by simpa using ⟨hne, fun z => hae z.symm⟩) fun y h' tk hy ho hst hT hsz hk => ?_
    obtain rfl : u = y := by
      have h1 : its.toArray[i]? = some y := hy
      have h2 : its.toArray[i]? = some u := by simpa using hu
      rw [h2] at h1; cases h1; rfl
    refine ⟨_, rfl, wpAny_letOwnedTupleGo_enum (s := { s with heap := h', toks := tk + 1 }) ho fun h'' he' sb => ?_⟩
    have hT2 : h''.get? s.heap.objs.size = some { cls := .type "tuple", data := .seq #[.int i tk, u] } := (sb.2 _ (Nat.ne_of_gt hel)).trans hT
    have new : ObjOk X.prog X.w (upd H s.heap.objs.size (.tup [.int (i : Nat), x])) h'' s.heap.objs.size (.tup [.int (i : Nat), x]) :=
      ⟨by show 2 ≤ sizeLine; decide, [.int i tk, u], .cons ⟨_, rfl⟩ (.cons ru .nil), ⟨_, hT2, rfl, _, rfl⟩⟩
    have I1 : Inv X pins σ (upd H s.heap.objs.size (.tup [.int (i : Nat), x])) { s with heap := h'', toks := tk + 1 } :=
      I.turnedNew (ch := [e, it]) (fun b o hb q => (sb.2 b (fun z => hb (by simp [z]))).trans (hk b o (fun z => hb (by simp [z])) (fun z => hb (by simp [z])) q)) hf (Nat.le_refl _) new
    refine ⟨.ref s.heap.objs.size, _, I1, rfl, ⟨_, x, rfl, I.hok.fresh (Nat.le_refl _), rfl, fun ys hy => by rw [I.tuple_inj hy hq]; exact hx⟩, ⟨⟨u, ?_⟩, hst.1.at fun o q => (sb.2 it (Ne.symm hne)).trans q, hne⟩, fun b hb => ?_⟩
    · have e1 : ((i + 1 : Nat) : Int) = (i : Int) + 1 := by omega
      rw [e1]; exact he'
    · have hb' : b < s.heap.objs.size := by
        rcases (by simpa using hb : b = e ∨ b = it) with z | z
        · rw [z]; exact hel
        · rw [z]; exact hil
      rw [upd_ne (Nat.ne_of_lt hb')]
      exact (hf b hb).1
  done := by
    intro X hP hw hK hc i pins s σ H E I hf st hg
    subst hP hw hK
    obtain ⟨⟨old, he⟩, hit, hne⟩ := st
    obtain ⟨xs, hq, hx⟩ := hg
    obtain ⟨its, rv, p, hz⟩ := I.tuple hq
    obtain ⟨f0, f1, f2, f3, f4, f5⟩ := hf it (by simp)
    have hl := rv.length
    exact enum_endT (I.ok.hd hc) he hit (show s.heap.IsTuple a its.toArray from p) (by simp; omega) fun h' eb => ⟨rfl, I.turned (t' := s.toks) (fun b o hb q => eb b o hb q) f0 f1 f3 f4 f5⟩
  self := fun A i s Q E st h => let ⟨⟨_, he⟩, _⟩ := st; wpAny_pyIter_enum he h
def iEnumT (K : PySem.W.Frag) (ta : TA) : TI := fun σ H R => ta σ H fun vs H1 => ∃ a xs, vs = [.ref a] ∧ SqT K H1 a xs ∧ R (Itp K a) H1
theorem pi_enumT {X : Cx} {e : Expr} {ta : TA} {p pos tpos : Pos} {elts : List Expr} {kk : Nat} (hg : Gl X "enumerate") (hm : X.mg "enumerate" = none) (ha : PA X [e] ta) (hs : starEach [e] X.env = [(false, eval e X.env)] := by rfl) :
    PI X (.Tuple elts kk tpos) (.Call (.Name "enumerate" p) [e] [] pos) (iEnumT X.K ta) := by
  refine ⟨fun pins s σ H R I h => ?_⟩
  refine Call_ (ld_blt I hg hm boot_enumerate (PyProof.Rows.callWith_type1 (thn (ha.run pos pins s σ H _ I h) fun us s1 ⟨vs, H1, I1, r1, q1⟩ => ?_) hs rfl))
  obtain ⟨a, xs, ex, hq, q⟩ := q1
  subst ex
  cases r1 with
  | cons r rr =>
    cases rr
    cases r
    obtain ⟨its, rv, p', hz⟩ := I1.tuple hq
    refine call_enumT (show s1.heap.IsTuple a its.toArray from p') fun h' he hit hk => wpAny_pyIter_enum he ?_
    refine ⟨s1.heap.objs.size + 1, [s1.heap.objs.size + 1, s1.heap.objs.size], _, _, H1, rfl, I1.kept (t' := s1.toks) hk, turn_enumT a (s1.heap.objs.size + 1) s1.heap.objs.size, ⟨⟨.none, he⟩, hit, Nat.succ_ne_self _⟩, fun b hb => ?_, q⟩
    have hle : s1.heap.objs.size ≤ b := by
      rcases (by simpa using hb : b = s1.heap.objs.size + 1 ∨ b = s1.heap.objs.size) with z | z
      · rw [z]; exact Nat.le_add_right _ _
      · rw [z]; exact Nat.le_refl _
    exact I1.fpOk hle (I1.hok.fresh hle)
theorem walk_enumT {K : PySem.W.Frag} {a : Addr} {xs : List V} : Walk (Itp K a) xs.length (fun H => SqT K H a xs) (YPair (fun i => some (.int (i : Nat))) (fun i => xs[i]?)) := by
  refine ⟨fun i _ hi q => ⟨xs, xs[i], q, by simp [hi]⟩, fun _ q => ⟨xs, q, Nat.le_refl _⟩, fun i H v H' _ q y => ?_⟩
  obtain ⟨T, x, h1, h2, h3, h4⟩ := y
  exact ⟨T, .int (i : Nat), x, h1, h2, h3, rfl, h4 xs q⟩
end Dn

namespace Rd
open PySem PySem.Spec PyProof.Rows L2 Tq Dn Dc Ox
/-! ### what stands is kept while dice roll -/
theorem seq_kp {K : PySem.W.Frag} {p a : Addr} {H H' : Hp} {xs : List V} (h : SqT K H a xs) (d : DiceAt H p) (k : Keep p H H') : SqT K H' a xs := sqT_up (seq_hid h d) (hid_keep k)
theorem LinesAt.kp {K : PySem.W.Frag} {p L : Addr} {H H' : Hp} {rs : RowsL} (h : LinesAt K H L rs) (d : DiceAt H p) (k : Keep p H H') : LinesAt K H' L rs := (lines_hid h d).up (hid_keep k)
theorem RdAt.kp {K : PySem.W.Frag} {C p r : Addr} {H H' : Hp} {rs : RowsL} (h : RdAt K C H r rs) (d : DiceAt H p) (k : Keep p H H') : RdAt K C H' r rs := by
  obtain ⟨dx, L, T, ps, e, a, b, c⟩ := h
  obtain ⟨qs, e2, h2, h3⟩ := c
  refine ⟨dx, L, T, ps, k _ _ (fun z => ?_) e, a.kp d k, b, qs, e2, seq_kp h2 d k, fun x hx => seq_kp (h3 x hx) d k⟩
  obtain ⟨x, y, z', hp, _⟩ := d
  rw [z, hp] at e; cases e
theorem dice_same {p : Addr} {H H' : Hp} (d : DiceAt H p) (s : Same H H') : DiceAt H' p := let ⟨a, b, c, e, h⟩ := d; ⟨a, b, c, s _ _ e, h⟩
/-! ### values near lines are no lines -/
theorem gone_p : ¬ ("gone" : Str) ∈ P2 := by decide +kernel
theorem gone_t : ¬ ("gone" : Str) ∈ T3 := by decide +kernel
theorem any_no {rs : RowsL} {l : Ln} (h : l ∉ lnsOf rs) : ((lnsOf rs).any fun k => PyData.eqv k.d l.d) = false := by
  rw [List.any_eq_false]
  intro k hk
  rw [ln_eqv]
  simp only [decide_eq_true_eq]
  intro e; subst e; exact h hk
theorem w_if : ¬ (("if" : Str) = "go") := ne1
theorem Rd_go : ¬ (("Read" : Str) = "go") := by decide +kernel
theorem Rd_if : ¬ (("Read" : Str) = "if") := by decide +kernel
theorem Rd_read : ¬ (("read" : Str) = "Read") := by decide +kernel
theorem Rd_look : ¬ (("look" : Str) = "Read") := by decide +kernel
theorem lineD_tup {ds : List PyData} {m : Int} (h : ds.length < 2 ∨ lineT ds m = false) : lineD (.tuple ds) m = false := by
  show (if ds.length < 2 then false else lineT ds m) = false
  rcases h with h | h
  · rw [if_pos h]
  · split
    · rfl
    · exact h
theorem no_str (ds : List PyData) (s : Str) : PyData.eqv (.tuple ds) (.str s) = false := by simp [PyData.eqv]
theorem no_str2 (ds : List PyData) (s : Str) : PyData.eqv (.str s) (.tuple ds) = false := by simp [PyData.eqv]
theorem near_no {rs : RowsL} (hd : ∀ r ∈ rs, r.2.drawn rs.length) : ∀ d ∈ nearD rs, (lineD d rs.length && (lnsOf rs).any fun l => PyData.eqv l.d d) = false := by
  have r1 : (Ln.read "item" "gone") ∉ lnsOf rs := fun h => by
    obtain ⟨r, hr, e⟩ := List.mem_map.mp h
    have := hd r hr; rw [e] at this; exact gone_p this.2
  have r2 : (Ln.look "gone" "live") ∉ lnsOf rs := fun h => by
    obtain ⟨r, hr, e⟩ := List.mem_map.mp h
    have := hd r hr; rw [e] at this; exact gone_t this.1
  have no : ∀ {d : PyData}, lineD d rs.length = false → (lineD d rs.length && (lnsOf rs).any fun l => PyData.eqv l.d d) = false := fun h => by rw [h]; rfl
  have w1 : ¬ (("read" : Str) = "go") := ne3
  have w2 : ¬ (("look" : Str) = "go") := ne2
  have w3 : ¬ (("read" : Str) = "if") := ne5
  have w4 : ¬ (("look" : Str) = "if") := ne4
  have w5 : ¬ (("if" : Str) = "go") := ne1
  intro d h
  simp only [nearD, List.mem_cons, List.not_mem_nil, or_false] at h
  rcases h with rfl | rfl | rfl | rfl | rfl | rfl | rfl | rfl | rfl | rfl | rfl | rfl | rfl | rfl | rfl | rfl | rfl | rfl | rfl | rfl | rfl | rfl | rfl | rfl | rfl | rfl
  all_goals first
    | exact no rfl
    | (refine no (lineD_tup (.inl ?_)); simp; done)
    | (refine no (lineD_tup (.inr ?_)); rw [lineT_str]; simp [numD, nameD, w1, w2, w3, w4, w5, Rd_go, Rd_if, Rd_read, Rd_look]; done)
    | (rw [Bool.and_eq_false_iff]; exact .inr (any_no r1))
    | (rw [Bool.and_eq_false_iff]; exact .inr (any_no r2))
    | skip
  · refine no (lineD_tup (.inr ?_))
    rw [lineT_str, if_pos rfl]
    simp [numD]
    omega
  · refine no ?_
    show (if ((lnsOf rs).map Ln.d).length < 2 then false else lineT ((lnsOf rs).map Ln.d) rs.length) = false
    cases lnsOf rs with
    | nil => rfl
    | cons l ls =>
      split
      · rfl
      · unfold lineT
        simp only [List.map_cons, List.getD_cons_zero, no_str, no_str2, Bool.false_eq_true, if_false, Bool.or_false, Bool.false_and]
theorem shaped_by {d : PyData} (h : PyData.canLay0 d = true) (h2 : d.depth ≤ 64) : SeqAt.shaped d = true := by
  show (PyData.canLay0 d && decide (d.depth ≤ 64)) = true
  rw [h, decide_eq_true h2]; rfl
theorem near_shaped {rs : RowsL} (z : ∀ l ∈ lnsOf rs, l.safe) : ∀ d ∈ nearD rs, SeqAt.shaped d = true := by
  intro d h
  simp only [nearD, List.mem_cons, List.not_mem_nil, or_false] at h
  have w : PyData.strOk "go" = true := by decide +kernel
  rcases h with rfl | rfl | rfl | rfl | rfl | rfl | rfl | rfl | rfl | rfl | rfl | rfl | rfl | rfl | rfl | rfl | rfl | rfl | rfl | rfl | rfl | rfl | rfl | rfl | rfl | rfl
  all_goals first
    | decide +kernel
    | exact dls_shaped z
    | exact shaped_by (by simp [PyData.canLay0, PyData.canLayAll0, w]) (by simp [PyData.depth, PyData.depthAll])
def smallB (ds : List PyData) : Bool := ds.all fun d => match d with
  | .str s => decide (s.cps.size ≤ 100)
  | _ => true
theorem small_of {ds : List PyData} (h : smallB ds = true) : Small ds := fun s hs => by
  have := List.all_eq_true.mp h _ hs
  have h2 : s.cps.size ≤ 100 := of_decide_eq_true this
  rw [sizeLine_eq]; omega
theorem mod_no {d : PyData} (h : ∀ ds, d ≠ .tuple ds) : Mod_ d := fun ds e => absurd e (h ds)
theorem mod_tup {ds : List PyData} (h : smallB ds = true) (l : ds.length ≤ 100) : Mod_ (.tuple ds) := fun _ e => by cases e; exact ⟨small_of h, l⟩
theorem near_mod {rs : RowsL} (few : rs.length ≤ 16) : ∀ d ∈ nearD rs, Mod_ d := by
  intro d h
  simp only [nearD, List.mem_cons, List.not_mem_nil, or_false] at h
  rcases h with rfl | rfl | rfl | rfl | rfl | rfl | rfl | rfl | rfl | rfl | rfl | rfl | rfl | rfl | rfl | rfl | rfl | rfl | rfl | rfl | rfl | rfl | rfl | rfl | rfl | rfl
  all_goals first
    | (refine mod_no fun _ e => ?_; cases e; done)
    | exact mod_tup (by decide +kernel) (by simp)
    | exact mod_tup rfl (by simp)
    | skip
  exact fun _ e => by
    cases e
    refine ⟨fun s hs => ?_, by rw [List.length_map, List.length_map]; omega⟩
    obtain ⟨l, _, e⟩ := List.mem_map.mp hs
    cases e
end Rd

namespace Rd
open PySem PySem.Spec PyProof.Rows L2 Tq Dn Dc Ox
abbrev sRi : Stmt := top 57
/-- a def of the law that shows values, with its promise -/
abbrev HasG (P : Program) (w : World) (K : PySem.W.Frag) (mg : Str → Option Value) (base : Heap) (x : Str) (k : Nat) (ps : List Str) (sp : Sp) : Prop :=
  ∃ f fd, mg x = some (.ref f) ∧ PySem.W.keepIn K (.ref f) = true ∧ Binds K fd ps [] ∧ FnG P w K mg base k f fd ps sp
structure TxV (K : PySem.W.Frag) (mg : Str → Option Value) (P : Program) (w : World) (base : Heap) (C CN : Addr) : Prop extends TxW K mg P w base C CN where
  of_ : HasC P w K mg base C "of" 7 (spOf K C)
  eq_ : HasD P w K mg base C "__eq__" 1 (spEqR K C)
  has_ : HasD P w K mg base C "__contains__" 5 (spHas K C)
  ne0 : PySem.W.findIn K (.ref C) "__ne__" = some (some (.builtin "object.__ne__"))
  sub0 : PySem.W.subIn K (.ref C) (.type "object") = some true
  nf : ∀ t ∈ tys, PySem.W.notFirst K C (.type t) = true
  ii : TxI K C
  lns : Has P w K mg base "_law_lines" 4 ["_law_dice_here", "_law_most"] (spLns K)
  told : HasG P w K mg base "_law_told" 7 ["_law_reader", "_law_at"] (spTold K C)
  near : Has P w K mg base "_law_near" 3 ["_law_dice_here", "_law_lines_here"] (spNear K)
  parts : HasG P w K mg base "_law_parts_right" 5 ["_law_reader", "_law_lines_here"] (spPR K C)
/-- values that are no numbers of lines -/
def OddN (K : PySem.W.Frag) (H : Hp) (n : Nat) (v : V) : Prop := ∃ d t, Dp K H v d ∧ numD d ((n : Int) - 1) = false ∧ Shows H v t ∧ PyData.strOk t = true
theorem OddN.up {K : PySem.W.Frag} {H H' : Hp} {n : Nat} {v : V} (h : OddN K H n v) (s : Same H H') : OddN K H' n v :=
  let ⟨d, t, a, b, c, e⟩ := h; ⟨d, t, dp_up s a, b, c.up s, e⟩
theorem num_ok : ∀ n : Nat, n < 17 → PyData.strOk (toString (n : Int)) = true ∧ PyData.strOk (toString (-(n : Int) - 1)) = true ∧ (-(n : Int) - 1).natAbs.log2 < 1920 := by decide +kernel
theorem odd_int {K : PySem.W.Frag} {H : Hp} {n : Nat} {i : Int} (h : i < 0 ∨ (n : Int) - 1 < i) (l : i.natAbs.log2 < 1920) (k : PyData.strOk (toString i) = true) : OddN K H n (.int i) := by
  refine ⟨.int i, toString i, .int i, ?_, .inr (.inr (.inl ⟨i, rfl, l, rfl⟩)), k⟩
  show (decide (0 ≤ i) && decide (i ≤ (n : Int) - 1)) = false
  rw [Bool.and_eq_false_iff, decide_eq_false_iff_not, decide_eq_false_iff_not]
  omega
theorem odd_all {K : PySem.W.Frag} {H : Hp} {n : Nat} {t l : Addr} (hn : n < 17) (ht : H t = some (.tup [.int 0])) (hl : H l = some (.lst [])) : ∀ v ∈ [V.int (n : Int), .int (-1), .bl true, .non, .str "0", .ref t, .int (10 ^ Int.toNat 30), .ref l, .int (-(n : Int) - 1)], OddN K H n v := by
  obtain ⟨k1, k2, k3⟩ := num_ok n hn
  obtain ⟨_, k4⟩ := num_few n hn
  intro v hv
  simp only [List.mem_cons, List.not_mem_nil, or_false] at hv
  rcases hv with rfl | rfl | rfl | rfl | rfl | rfl | rfl | rfl | rfl
  · exact odd_int (.inr (by omega)) k4 k1
  · exact odd_int (.inl (by omega)) (by decide +kernel) (by decide +kernel)
  · exact ⟨_, _, .bl true, rfl, .inr (.inl ⟨true, rfl, rfl⟩), by decide +kernel⟩
  · exact ⟨_, _, .non, rfl, .inl ⟨rfl, rfl⟩, by decide +kernel⟩
  · exact ⟨_, _, .str "0", rfl, .inr (.inr (.inr (.inl ⟨"0", rfl, by rw [sizeLine_eq]; decide +kernel, rfl⟩))), by decide +kernel⟩
  · exact ⟨.tuple [.int 0], _, .tup (SqT.of ht) (.cons (.int 0) .nil), rfl, .inr (.inr (.inr (.inr ⟨t, .tuple [.int 0], rfl, .tup ht (.cons (.int 0) .nil), by decide +kernel, by decide +kernel, by rw [sizeLine_eq]; decide +kernel, rfl⟩))), by decide +kernel⟩
  · exact odd_int (.inr (by have : (16 : Int) < 10 ^ Int.toNat 30 := by decide +kernel
                            omega)) (by decide +kernel) (by decide +kernel)
  · exact ⟨.list [], _, .lst (SqL.of hl) .nil, rfl, .inr (.inr (.inr (.inr ⟨l, .list [], rfl, .lst hl .nil, by decide +kernel, by decide +kernel, by rw [sizeLine_eq]; decide +kernel, rfl⟩))), by decide +kernel⟩
  · exact odd_int (.inl (by omega)) k3 k2
theorem has_no {K : PySem.W.Frag} {C r : Addr} {H : Hp} {rs : RowsL} {v : V} (hR : RdAt K C H r rs) (ok : RdOk rs) (odd : Odd K H rs v) (hd : ∀ r ∈ rs, r.2.drawn rs.length) :
    (∀ (Q : VK) (E : XK), (∀ H', Same H H' → Q (.bl false) H') → spHas K C [.ref r, v] H Q E) ∧ NoRd K H v := by
  rcases odd with ⟨d, hm, hv⟩ | ⟨a, rfl, ea⟩
  · refine ⟨fun Q E k => ⟨r, rs, v, rfl, hR, ok, .inl ⟨d, hv, near_shaped (lns_safe ok) d hm, near_mod ok.few d hm, fun H' s' => ?_⟩⟩, dp_no hv⟩
    rw [near_no hd d hm]
    exact k H' s'
  · have ty : TyX K H (.ref a) (.type "dict") := .base (.dK ea)
    exact ⟨fun Q E k => ⟨r, rs, _, rfl, hR, ok, .inr ⟨ty, k H (Same.refl _)⟩⟩, "dict", by simp [tys], ty⟩
def spRi : Sp := fun vs H Q _ => ∃ p, vs = [.ref p] ∧ DiceAt H p ∧ ∀ H', Keep p H H' → DiceAt H' p → Q (.bl true) H'
section
variable {P : Program} {w : World} {K : PySem.W.Frag} {mg : Str → Option Value} {base : Heap}
theorem scRi : FnScope ["_law_dice_here", "_law_lines_here", "_law_one", "_law_other", "_law_second", "_law_at", "_law_line_here", "_law_odd", "_law_turn"] ["_law_dice_here"] (defScope sRi) := ⟨rfl, rfl, rfl, by decide +kernel, rfl, by decide +kernel, by decide +kernel⟩
theorem ok_ri {C CN f : Addr} {fd : FuncData} (F : Fun K "_law_right" "_law_right" sRi f fd) (T : TxV K mg P w base C CN) : FnG P w K mg base 8 f fd ["_law_dice_here"] (spRi) := by
  obtain ⟨mc, p0, g0, cr, cm, G0⟩ := T.of_
  obtain ⟨g1, D1, G1⟩ := T.eq_
  obtain ⟨g2, D2, G2⟩ := T.has_
  obtain ⟨fL, fdL, mL, kL, bL, GL⟩ := T.lns
  obtain ⟨fT, fdT, mT, kT, bT, GT⟩ := T.told
  obtain ⟨fN, fdN, mN, kN, bN, GN⟩ := T.near
  obtain ⟨fP, fdP, mP, kP, bP, GP⟩ := T.parts
  refine F.okG scRi (fun vs H Q E h => ?_) (fun cdv A outer s H vs Q E hgd hr h => ?_)
  · obtain ⟨p, rfl, _⟩ := h; rfl
  · obtain ⟨p, rfl, di, k⟩ := h
    have hu := hr.units
    have hsm := T.sysm
    have r1 := hr.mono (show 1 ≤ 7 by decide)
    have r2 := hr.mono (show 2 ≤ 7 by decide)
    have r3 := hr.mono (show 3 ≤ 7 by decide)
    have r4 := hr.mono (show 4 ≤ 7 by decide)
    have r5 := hr.mono (show 5 ≤ 7 by decide)
    refine ⟨_, pss_cons (ps_set (i := 1) scRi.nd rfl (Or.inl rfl) (pe_call GL r4 (by rfl) mL kL bL .nil pass0 (pa_cons (pv 0) (pa_cons pe_int pa_nil))))
      (pss_cons (ps_par (i := 2) (j := 3) rfl scRi.nd rfl rfl (by decide) rfl rfl (pa_cons (ClX.pe_cmeth (pe_glob (v := .ref C) (by rfl) T.mgC rfl) cr cm G0 hr pass0 (pa_cons (pv 1) pa_nil)) (pa_cons (pe_call GL r4 (by rfl) mL kL bL .nil pass0 (pa_cons (pv 0) (pa_cons pe_int pa_nil))) pa_nil)) (by rfl))
      (pss_cons (ps_if (PW.pt (pw_or (pt_not (pt_val (pe_callG GP hgd r5 (by rfl) mP kP bP (pa_cons (pv 2) (pa_cons (pv 1) pa_nil)))))
          (pw_or1 (pt_not (pt_cmpR (op_eqO (E := E0) D1 G1 r1 pass0A) (pv 2) (ClX.pe_cmeth (pe_glob (v := .ref C) (by rfl) T.mgC rfl) cr cm G0 hr pass0 (pa_cons (pv 1) pa_nil)) (nomark _)))))) (pss_one (ps_ret pe_bl)) pss_nil)
      (pss_cons (ps_set (i := 4) scRi.nd rfl (Or.inl rfl) (ClX.pe_cmeth (pe_glob (v := .ref C) (by rfl) T.mgC rfl) cr cm G0 hr pass0 (pa_cons (pv 3) pa_nil)))
      (pss_cons (ps_if (pt_cmpR (op_neD hu) (pe_lst (pa_cons (pe_cmpR (op_eqO (E := E0) D1 G1 r1 pass0A) (pv 2) (pv 4) (nomark _)) (pa_cons (pe_cmpR (op_neO (E := E0) T.ne0 T.sub0 D1 G1 r2 pass0A) (pv 2) (pv 4) (nomark _)) pa_nil)))
          (pe_lst (pa_cons (pe_cmpR (op_eqD hu) (pv 1) (pv 3) (nomark _)) (pa_cons (pe_cmpR (op_neD hu) (pv 1) (pv 3) (nomark _)) pa_nil))) (nomark _)) (pss_one (ps_ret pe_bl)) pss_nil)
      (pss_cons (ps_for PassesOwn.never rfl (pi_enumT (by rfl) T.enum (pa_cons (pv 1) pa_nil)) (pg_tup rfl (pgs_cons (pg_name (i := 5) scRi.nd rfl (.inl rfl)) (pgs_cons (pg_name (i := 6) scRi.nd rfl (.inl rfl)) pgs_nil)))
          (pss_one (ps_if (PW.pt (pw_or (pt_cmpR (op_neD hu) (pe_callG GT hgd hr (by rfl) mT kT bT (pa_cons (pv 2) (pa_cons (pv 5) pa_nil))) (pv 6) (nomark _)) (pw_or1 (pt_cmpR (op_notInO (E := E0) D2 G2 r5 pass0A) (pv 6) (pv 2) (by rfl))))) (pss_one (ps_ret pe_bl)) pss_nil)))
      (pss_cons (ps_for PassesOwn.never rfl (pi_tup (pe_tup (pa_cons (pe_callB call_lenT (by rfl) T.len PySem.boot_len (pa_cons (pv 1) pa_nil)) (pa_cons (pe_un un_neg pe_int) (pa_cons pe_bl (pa_cons pe_non (pa_cons pe_str (pa_cons (pe_tup (pa_cons pe_int pa_nil)) (pa_cons (pe_op op_powB pe_int pe_int) (pa_cons (pe_lst pa_nil)
            (pa_cons (pe_op op_sub (pe_un un_neg (pe_callB call_lenT (by rfl) T.len PySem.boot_len (pa_cons (pv 1) pa_nil))) pe_int) pa_nil))))))))))) (pg_name (i := 7) scRi.nd rfl (.inl rfl))
          (pss_one (ps_if (pt_cmpR (op_neD hu) (pe_callG GT hgd hr (by rfl) mT kT bT (pa_cons (pv 2) (pa_cons (pv 7) pa_nil))) (pe_lst (pa_cons pe_str (pa_cons (pe_callB (call_show hgd hu hsm) (by rfl) T.repr PyProof.Rows.boot_repr (pa_cons (pv 7) pa_nil)) pa_nil))) (nomark _)) (pss_one (ps_ret pe_bl)) pss_nil)))
      (pss_cons (ps_for PassesOwn.never rfl (pi_range1 (by rfl) T.range (pa_cons pe_int pa_nil)) (pg_name (i := 8) scRi.nd rfl (.inl rfl))
          (pss_cons (ps_set (i := 7) scRi.nd rfl (Or.inl rfl) (pe_call GN r3 (by rfl) mN kN bN .nil pass0 (pa_cons (pv 0) (pa_cons (pv 1) pa_nil))))
          (pss_one (ps_if (PW.pt (pw_or (pt_cmpR (op_inO (E := E0) D2 G2 r5 pass0A) (pv 7) (pv 2) (by rfl)) (pw_or (pt_cmpR (op_eqO (E := E0) D1 G1 r1 pass0A) (pv 2) (pv 7) (nomark _)) (pw_or1 (pt_not (pt_cmpR (op_neO (E := E0) T.ne0 T.sub0 D1 G1 r2 pass0A) (pv 2) (pv 7) (nomark _))))))) (pss_one (ps_ret pe_bl)) pss_nil))))
      (pss_one (ps_ret (pe_callG GP hgd r5 (by rfl) mP kP bP (pa_cons (pv 2) (pa_cons (pv 1) pa_nil)))))))))))), ?_⟩
    have nfR : PySem.W.notFirst K C (.ref C) = true := by unfold PySem.W.notFirst; simp
    have tyR : ∀ {H : Hp} {r : Addr} {rs : RowsL}, RdAt K C H r rs → TyX K H (.ref r) (.ref C) := fun h => by
      obtain ⟨dx, L, TT, ps, e, _⟩ := h
      exact .base (.ins e T.cl T.ii.ha T.ii.hn T.ii.htk T.ii.hm)
    refine ⟨_, rfl, p, rfl, di, fun L rs H1 k1 d1 nL eL hrows hdr few => ?_⟩
    have hL : LinesAt K H1 L rs := ⟨SqT.of eL, fun r hr => SqT.of (hrows r hr)⟩
    have ok : RdOk rs := drawn_ok hdr few
    have safe := lns_safe ok
    refine ⟨rfl, _, rfl, L, rs, rfl, hL, ok, fun H2 r s2 nr hR => ?_⟩
    have d2 := dice_same d1 s2
    have hL2 := hL.up s2
    have k02 := k1.trans (same_keep s2)
    refine ⟨_, rfl, p, rfl, d2, fun Lo ss H3 k3 d3 nLo eLo hrows2 hdr2 few2 => ?_⟩
    have hLo : LinesAt K H3 Lo ss := ⟨SqT.of eLo, fun r hr => SqT.of (hrows2 r hr)⟩
    have ok2 : RdOk ss := drawn_ok hdr2 few2
    have safe2 := lns_safe ok2
    have hR3 := hR.kp d2 k3
    have hL3 := hL2.kp d2 k3
    have k03 := k02.trans k3
    clear hR hL2 hL d2 d1 s2 k02 k3 k1
    refine ⟨_, _, rfl, ?_⟩
    refine ⟨_, rfl, _, rfl, r, L, rs, rfl, hR3, ok, hL3, fun H4 s4 => ⟨_, rfl, iteF ?_⟩⟩
    have hR4 := hR3.up s4
    obtain ⟨dx, L', T', ps, eR4, _⟩ := id hR4
    refine ⟨_, rfl, rfl, _, rfl, L, rs, rfl, hL3.up s4, ok, fun H5 q s5 nq hq => ?_⟩
    refine ⟨r, dx, _, .ref C, rfl, s5 _ _ eR4, tyR hq, nfR, r, rs, _, rfl, hR4.up s5, ok, .inl ⟨q, rs, rfl, hq, ok, _, rfl, _, rfl, ?_⟩⟩
    rw [decide_eq_true rfl]
    refine iteF ?_
    have s35 := s4.trans s5
    -- the second reader
    refine ⟨rfl, _, rfl, Lo, ss, rfl, hLo.up s35, ok2, fun H6 q2 s6 nq2 hq2 => ?_⟩
    have s46 := s5.trans s6
    have s36 := s4.trans s46
    have hR6 := hR4.up s46
    have eR6 := s46 _ _ eR4
    refine ⟨_, rfl, _, rfl, r, dx, _, .ref C, rfl, eR6, tyR hq2, nfR, r, rs, _, rfl, hR6, ok, .inl ⟨q2, ss, rfl, hq2, ok2, _, rfl, ?_⟩⟩
    refine ⟨_, rfl, _, rfl, r, dx, _, .ref C, rfl, eR6, tyR hq2, nfR, r, rs, _, rfl, hR6, ok, .inl ⟨q2, ss, rfl, hq2, ok2, _, rfl, ?_⟩⟩
    generalize hb : decide (lnsOf rs = lnsOf ss) = b
    refine ⟨(by show 2 ≤ sizeLine; decide), fun l7 n7 => ?_⟩
    have s7 := same_new (o := HO.lst [V.bl (b != false), V.bl (b != true)]) n7
    have e7 : upd H6 l7 (HO.lst [V.bl (b != false), V.bl (b != true)]) l7 = some (.lst [V.bl (b != false), V.bl (b != true)]) := upd_same
    generalize upd H6 l7 (HO.lst [V.bl (b != false), V.bl (b != true)]) = H7 at s7 e7 ⊢
    have s37 := s36.trans s7
    refine ⟨_, rfl, _, rfl, _, _, (hL3.up s37).dp, (hLo.up s37).dp, dls_shaped safe, dls_shaped safe2, ?_⟩
    refine ⟨_, rfl, _, rfl, _, _, (hL3.up s37).dp, (hLo.up s37).dp, dls_shaped safe, dls_shaped safe2, ?_⟩
    rw [dls_eqv, hb]
    refine ⟨(by show 2 ≤ sizeLine; decide), fun l8 n8 => ?_⟩
    have s8 := same_new (o := HO.lst [V.bl b, V.bl (!b)]) n8
    refine ⟨.list [.bool (b != false), .bool (b != true)], .list [.bool b, .bool (!b)], .lst (SqL.of (s8 _ _ e7)) (.cons (.bl _) (.cons (.bl _) .nil)), .lst (SqL.of upd_same) (.cons (.bl _) (.cons (.bl _) .nil)), by cases b <;> decide, by cases b <;> decide, _, rfl, ?_⟩
    rw [show (PyData.eqv (.list [.bool (b != false), .bool (b != true)]) (.list [.bool b, .bool (!b)])) = true by cases b <;> decide]
    refine iteF ?_
    have s38 := s37.trans s8
    generalize upd H7 l8 (HO.lst [V.bl b, V.bl (!b)]) = H8 at s38 ⊢
    clear s7 e7 s8 hb n7 n8 eR6 hR6 s46 s36 s37 s35 eR4 hR4
    -- line by line
    have hR8 := hR3.up s38
    have hL8 := hL3.up s38
    obtain ⟨dy, Ly, Ty, py, eR8, _⟩ := id hR8
    have d8 := dice_same d3 s38
    have k08 := k03.trans (same_keep s38)
    have mem_any : ∀ x ∈ rs, ((lnsOf rs).any fun l => PyData.eqv l.d x.2.d) = true := fun x hx => List.any_eq_true.mpr ⟨x.2, List.mem_map_of_mem hx, SeqAt.eqv_refl _ (SeqAt.canLay_of_shaped (ln_shaped (safe _ (List.mem_map_of_mem hx))))⟩
    refine ⟨_, rfl, L, _, rfl, hL8.1, ?_⟩
    refine for_it walk_enumT (fun i σ H' => (∃ a b, σ = [some (.ref p), some (.ref L), some (.ref r), some (.ref Lo), some (.ref q2), a, b, none, none]) ∧ Same H8 H') ⟨⟨_, _, rfl⟩, Same.refl _⟩ (fun i σ H' _ hp => sqT_up hL8.1 hp.2) ?_ ?_
    · rintro i y σ Ha Hb hi ⟨⟨a, b, rfl⟩, sa⟩ ⟨Tp, x0, y0, rfl, nTp, rfl, hx0, hy0⟩
      obtain rfl : V.int (i : Nat) = x0 := by simpa using hx0
      have hy1 : (rs.map fun r => V.ref r.1)[i]? = some y0 := hy0
      rw [List.getElem?_map] at hy1
      obtain ⟨x, hx, rfl⟩ := Option.map_eq_some_iff.mp hy1
      have hxm := List.mem_of_getElem? hx
      refine ⟨Tp, _, rfl, SqT.of upd_same, rfl, _, _, rfl, _, _, rfl, rfl, ?_⟩
      have sb := sa.trans (same_new (o := HO.tup [V.int (i : Nat), V.ref x.1]) nTp)
      generalize upd Ha Tp (HO.tup [V.int (i : Nat), V.ref x.1]) = Hc at sb ⊢
      have hdx := ln_dp (sqT_up (hL8.2 x hxm) sb)
      have shx := ln_shaped (safe _ (List.mem_map_of_mem hxm))
      refine ⟨_, rfl, _, rfl, r, rs, _, _, rfl, hR8.up sb, .int _, .inl ⟨i, x, rfl, hx, ?_⟩⟩
      refine ⟨_, rfl, _, _, hdx, hdx, shx, shx, _, rfl, ?_⟩
      rw [SeqAt.eqv_refl _ (SeqAt.canLay_of_shaped shx)]
      refine iteF ?_
      refine ⟨_, rfl, _, rfl, r, dy, _, rfl, sb _ _ eR8, r, rs, _, rfl, hR8.up sb, ok, .inl ⟨_, hdx, shx, fine_mod (ok.fine x hxm), fun H' s' => ⟨_, rfl, _, rfl, ?_⟩⟩⟩
      rw [fine_line (ok.fine x hxm), mem_any x hxm]
      exact iteF ⟨⟨_, _, rfl⟩, sb.trans s'⟩
    rintro σ H9 ⟨⟨a9, b9, rfl⟩, s9⟩
    have hR9 := hR8.up s9
    have hL9 := hL8.up s9
    have d9 := dice_same d8 s9
    have k09 := k08.trans (same_keep s9)
    clear hR8 hL8 d8 k08 s38 k03 hR3 hL3 d3
    -- values that are no numbers of lines
    have ll : (rs.map fun r => V.ref r.1).length = rs.length := List.length_map _
    refine ⟨_, rfl, L, _, rfl, hL9.1, ?_⟩
    rw [ll]
    refine ⟨_, rfl, ?_⟩
    refine ⟨(by show 1 ≤ sizeLine; decide), fun t0 nt0 => ?_⟩
    have sA := same_new (o := HO.tup [V.int 0]) nt0
    have eA : upd H9 t0 (HO.tup [V.int 0]) t0 = some (.tup [.int 0]) := upd_same
    generalize upd H9 t0 (HO.tup [V.int 0]) = HA at sA eA ⊢
    refine ⟨_, _, rfl, rfl, ⟨by decide, by decide +kernel⟩, ?_⟩
    refine ⟨(by show 0 ≤ sizeLine; decide), fun l0 nl0 => ?_⟩
    have sB := same_new (o := HO.lst []) nl0
    have eB : upd HA l0 (HO.lst []) l0 = some (.lst []) := upd_same
    generalize upd HA l0 (HO.lst []) = HB at sB eB ⊢
    refine ⟨_, rfl, L, _, rfl, sqT_up hL9.1 (sA.trans sB), ?_⟩
    rw [ll]
    refine ⟨_, rfl, _, _, rfl, rfl, ?_⟩
    have odd := odd_all (K := K) (H := HB) (n := rs.length) (by omega) (sB _ _ eA) eB
    refine ⟨(by show 9 ≤ sizeLine; decide), fun t1 nt1 => ?_⟩
    generalize [V.int (rs.length : Int), V.int (-1), V.bl true, V.non, V.str "0", V.ref t0, V.int (10 ^ Int.toNat 30), V.ref l0, V.int (-(rs.length : Int) - 1)] = xs at odd nt1 ⊢
    have sC := same_new (o := HO.tup xs) nt1
    have eC : upd HB t1 (HO.tup xs) t1 = some (.tup xs) := upd_same
    generalize upd HB t1 (HO.tup xs) = HC at sC eC ⊢
    have s9C := (sA.trans sB).trans sC
    clear sA sB eA eB nl0 nt0
    have hRC := hR9.up s9C
    have oddC : ∀ v ∈ xs, OddN K HC rs.length v := fun v hv => (odd v hv).up sC
    refine ⟨t1, rfl, ⟨_, SqT.of eC⟩, ?_⟩
    refine for_it walk_tup (fun i σ H' => (∃ a b c, σ = [some (.ref p), some (.ref L), some (.ref r), some (.ref Lo), some (.ref q2), a, b, c, none]) ∧ Same HC H') ⟨⟨_, _, _, rfl⟩, Same.refl _⟩ (fun i σ H' _ hp => SqT.of (hp.2 _ _ eC)) ?_ ?_
    · rintro i v σ Ha Hb hi ⟨⟨a, b, c, rfl⟩, sa⟩ ⟨rfl, hv⟩
      obtain ⟨d, t, hd, hn, hs, hk⟩ := (oddC v (List.mem_of_getElem? hv)).up sa
      have hRa := hRC.up sa
      refine ⟨_, rfl, _, rfl, r, rs, v, d, rfl, hRa, hd, .inr ⟨hn, t, hs, fun H' l s' nl el => ?_⟩⟩
      refine ⟨_, rfl, v, t, rfl, hs.up s', (by show 2 ≤ sizeLine; decide), fun l2 nl2 => ?_⟩
      have s2 := same_new (o := HO.lst [V.str "number", V.str t]) nl2
      have sh : SeqAt.shaped (.list [.str "number", .str t]) = true := shaped_by (by
        have w : PyData.strOk "number" = true := by decide +kernel
        simp [PyData.canLay0, PyData.canLayAll0, w, hk]) (by simp [PyData.depth, PyData.depthAll])
      refine ⟨.list [.str "number", .str t], .list [.str "number", .str t], .lst (SqL.of (s2 _ _ el)) (.cons (.str _) (.cons (.str _) .nil)), .lst (SqL.of upd_same) (.cons (.str _) (.cons (.str _) .nil)), sh, sh, _, rfl, ?_⟩
      rw [SeqAt.eqv_refl _ (SeqAt.canLay_of_shaped sh)]
      exact iteF ⟨⟨_, _, _, rfl⟩, (sa.trans s').trans s2⟩
    rintro σ HD ⟨⟨aD, bD, cD, rfl⟩, sD⟩
    have s9D := s9C.trans sD
    have hRD := hR9.up s9D
    have hLD := hL9.up s9D
    have dD := dice_same d9 s9D
    have kD := k09.trans (same_keep s9D)
    clear hRC oddC odd s9C sC eC hR9 hL9 d9 k09 s9D sD s9
    -- values near lines
    refine ⟨4, rfl, by decide, by decide, ?_⟩
    refine for_it walk_range (fun i σ H' => (∃ a b c d, σ = [some (.ref p), some (.ref L), some (.ref r), some (.ref Lo), some (.ref q2), a, b, c, d]) ∧ Keep p HD H' ∧ DiceAt H' p) ⟨⟨_, _, _, _, rfl⟩, Keep.refl, dD⟩ (fun _ _ _ _ _ => trivial) ?_ ?_
    · rintro i y σ Ha Hb hi ⟨⟨a, b, c, d, rfl⟩, ka, da⟩ ⟨rfl, rfl⟩
      refine ⟨_, rfl, _, rfl, p, L, rs, rfl, da, hLD.kp dD ka, fun v He ke de odd => ?_⟩
      have kae := ka.trans ke
      have hRe := hRD.kp dD kae
      obtain ⟨hin, t, ht, ty⟩ := has_no hRe ok odd hdr
      obtain ⟨dz, Lz, Tz, pz, eRe, _⟩ := id hRe
      refine ⟨_, rfl, _, rfl, r, dz, _, rfl, eRe, hin _ _ fun Hf sf => ⟨_, rfl, _, rfl, iteF ?_⟩⟩
      have hRf := hRe.up sf
      obtain ⟨_, t2, ht2, ty2⟩ := has_no hRf ok (odd.up sf) hdr
      refine ⟨_, rfl, _, rfl, r, dz, _, .type t2, rfl, sf _ _ eRe, ty2, T.nf t2 ht2, r, rs, v, rfl, hRf, ok, .inr ⟨⟨t2, ht2, ty2⟩, _, rfl, _, rfl, iteF ?_⟩⟩
      refine ⟨_, rfl, _, rfl, r, dz, _, .type t2, rfl, sf _ _ eRe, ty2, T.nf t2 ht2, r, rs, v, rfl, hRf, ok, .inr ⟨⟨t2, ht2, ty2⟩, _, rfl, _, rfl, iteF ?_⟩⟩
      exact ⟨⟨_, _, _, _, rfl⟩, kae.trans (same_keep sf), dice_same de sf⟩
    rintro σ HE ⟨⟨aE, bE, cE, dE, rfl⟩, kE, dE'⟩
    refine ⟨_, rfl, _, rfl, r, L, rs, rfl, hRD.kp dD kE, ok, hLD.kp dD kE, fun HF sF => ?_⟩
    exact k HF ((kD.trans kE).trans (same_keep sF)) (dice_same dE' sF)
end
end Rd

namespace Rd
open PySem PySem.Spec PyProof.Rows L2 Tq Dn Dc Ox
/-- the written lines -/
def five : List Ln := [.read "b" "y", .ift "b" "x" 0, .look "c" "y", .read "a" "x", .read "b" "x"]
def three : List Ln := [.read "a" "y", .read "a" "x", .read "a" "y"]
theorem asc_by {ks ps : List (List Str)} (h1 : ps.Pairwise fun x y => tlt x y = true) (h2 : ∀ k ∈ ps, k ∈ ks) (h3 : ∀ k ∈ ks, k ∈ ps) : Asc ks ps := ⟨h1, fun k => ⟨h2 k, h3 k⟩⟩
theorem five_if : Asc (keysOf ["if"] five) [["b", "x"]] := asc_by (by decide +kernel) (by decide +kernel) (by decide +kernel)
theorem five_all : Asc (keysOf ["read", "look", "if"] five) [["a", "x"], ["b", "x"], ["b", "y"], ["c", "y"]] := asc_by (by decide +kernel) (by decide +kernel) (by decide +kernel)
theorem five_tabs : AscS ((rps five).map Prod.fst) ["a", "b"] := ⟨by decide +kernel, fun k => ⟨(by decide +kernel : ∀ k ∈ (["a", "b"] : List Str), k ∈ (rps five).map Prod.fst) k, (by decide +kernel : ∀ k ∈ (rps five).map Prod.fst, k ∈ (["a", "b"] : List Str)) k⟩⟩
theorem five_a : partsOf "a" five = (["x"] : List Str) := by decide +kernel
theorem five_b : partsOf "b" five = (["y", "x"] : List Str) := by decide +kernel
theorem five_plain : (five.all fun l => decide (l.word = ("read" : Str))) = false := by decide +kernel
theorem three_tabs : AscS ((rps three).map Prod.fst) ["a"] := ⟨by decide +kernel, fun k => ⟨(by decide +kernel : ∀ k ∈ (["a"] : List Str), k ∈ (rps three).map Prod.fst) k, (by decide +kernel : ∀ k ∈ (rps three).map Prod.fst, k ∈ (["a"] : List Str)) k⟩⟩
theorem three_a : partsOf "a" three = (["y", "x", "y"] : List Str) := by decide +kernel
theorem three_plain : (three.all fun l => decide (l.word = ("read" : Str))) = true := by decide +kernel
theorem three_ne : ¬ (([] : List Ln) = three) := by unfold three; simp
theorem five_ok {rs : RowsL} (e : rs.map Prod.snd = five) : RdOk rs := by
  have hl : rs.length = 5 := by have := congrArg List.length e; simpa [five] using this
  refine ⟨by omega, fun r hr => ?_, fun ps hA => ?_⟩
  · rw [hl]
    exact (by decide +kernel : ∀ l ∈ five, l.fine 5 = true) _ (by rw [← e]; exact List.mem_map_of_mem hr)
  · rw [e] at hA
    rw [hA.eq five_if]; decide
theorem nil_ok : RdOk [] := reads_ok (t := "a") (ps := []) rfl (by decide +kernel) (fun _ h => nomatch h) (by decide)
theorem text5 : rdText 5 1 = "reader of 5 lines, 1 tested" := by decide +kernel
theorem text0 : rdText 0 0 = "reader of 0 lines, 0 tested" := by decide +kernel
theorem nil_if {ps : List (List Str)} (h : Asc (keysOf ["if"] (([] : RowsL).map Prod.snd)) ps) : ps = [] := asc_nil h
theorem nil_all {ps : List (List Str)} {ws : List Str} (h : Asc (keysOf ws (([] : RowsL).map Prod.snd)) ps) : ps = [] := asc_nil h
theorem nil_reads {H : Hp} {kvs : List (Key × V)} (h : ReadsD H kvs (lnsOf [])) : kvs = [] := by
  obtain ⟨es, rfl, hA, _⟩ := h.ex
  have : es.map Prod.fst = [] := hA.eq (qs := []) ⟨.nil, fun k => Iff.rfl⟩
  rw [List.map_eq_nil_iff] at this
  rw [this]; rfl
theorem bool_same {K : PySem.W.Frag} {H : Hp} {b : Bool} : DatEq K H (.bl b) (.bl b) := dat_same (.bl b) (.bl b) (shaped_by rfl (by simp [PyData.depth]))
theorem str_same {K : PySem.W.Frag} {H : Hp} {s : Str} (h : PyData.strOk s = true) : DatEq K H (.str s) (.str s) := dat_same (.str s) (.str s) (shaped_str h)
theorem kab : ¬ (("a" : Str) = ("b" : Str)) := by decide +kernel
abbrev kS (a : Str) (v : V) : Key × V := (Sum.inr a, v)
theorem merge2 (x y : V) : mergeK [] [kS "a" x, kS "b" y] = [kS "a" x, kS "b" y] := by
  show putK (putK ([] : List (Key × V)) (Sum.inr ("a" : Str)) x) (Sum.inr ("b" : Str)) y = _
  have e : putK ([] : List (Key × V)) (Sum.inr ("a" : Str)) x = [kS "a" x] := rfl
  rw [e]
  unfold putK
  rw [if_neg (by simp [kab])]
  rfl
theorem merge1 (x : V) : mergeK [] [kS "a" x] = [kS "a" x] := rfl
theorem made_here {K : PySem.W.Frag} {C x dx : Addr} {H : Hp} {Q : VK} {rs : RowsL} (hL : ∀ r ∈ rs, SqT K H r.1 r.2.vs) (ok : RdOk rs) (nx : H x = Option.none) (nd : H dx = Option.none) (k : ∀ H', Same H H' → RdAt K C H' x rs → Q .non H') :
    spStar 1 (spInit K C) (V.ref x :: (rs.map fun r => V.ref r.1)) (upd (upd H dx (.own x)) x (.ins C dx [])) Q E0 := by
  have s1 : Same H (upd (upd H dx (.own x)) x (.ins C dx [])) := same_to nx (same_new nd)
  refine ⟨[.ref x], _, rfl, rfl, by rw [List.length_map, sizeLine_eq]; have := ok.few; omega, fun p np => ?_⟩
  have s2 := same_new (o := HO.tup (rs.map fun r => V.ref r.1)) np
  have hl := fun r hr => sqT_up (hL r hr) (s1.trans s2)
  refine ⟨x, dx, p, rs, rfl, s2 _ _ upd_same, ⟨SqT.of upd_same, hl⟩, ok, fun H' T ps kp e hA hP => k H' (fun b o hb => ?_) ?_⟩
  · exact kp b o (ne_of_none hb nx) ((s1.trans s2) b o hb)
  · exact rd_new e (LinesAt.off (s2 _ _ upd_same) kp ⟨SqT.of upd_same, hl⟩) hA hP
end Rd

namespace Rd
open PySem PySem.Spec PyProof.Rows L2 Tq Dn Dc Ox
abbrev sLw : Stmt := top 58
structure TxZ (K : PySem.W.Frag) (mg : Str → Option Value) (P : Program) (w : World) (base : Heap) (C CN : Addr) : Prop extends TxV K mg P w base C CN where
  dice : Has P w K mg base "_law_dice" 1 ["_law_script", "_law_at"] (spDice K)
  right : HasG P w K mg base "_law_right" 8 ["_law_dice_here"] spRi
  reading_ : HasC P w K mg base C "reading" 8 (spStar 2 (spReading K C))
  made_ : ∃ f, Mk K C f ∧ FnR P w K mg base CX0 5 f (spStar 1 (spInit K C))
def spLw (K : PySem.W.Frag) : Sp := fun vs H Q _ => ∃ (a : Addr) (ns : List Int), vs = [.ref a] ∧ SqL K H a (ns.map V.int) ∧ ∀ H', Q (.bl true) H'
section
variable {P : Program} {w : World} {K : PySem.W.Frag} {mg : Str → Option Value} {base : Heap}
abbrev nLw : List Str := ["_law_script", "_law_at", "_law_dice_here", "_law_turn", "_law_lines_here", "_law_one", "_law_told_here", "_law_due", "_law_two", "_law_none"]
theorem scLw : FnScope nLw ["_law_script"] (defScope sLw) := ⟨rfl, rfl, rfl, by decide +kernel, rfl, by decide +kernel, by decide +kernel⟩
theorem ok_lw {C CN f : Addr} {fd : FuncData} (F : Fun K "law" "law" sLw f fd) (T : TxZ K mg P w base C CN) : FnG P w K mg base 9 f fd ["_law_script"] (spLw K) := by
  obtain ⟨mc, p0, g0, cr, cm, G0⟩ := T.of_
  obtain ⟨mc2, p9, g9, cr2, cm2, G9⟩ := T.reading_
  obtain ⟨fM, MK, GM⟩ := T.made_
  obtain ⟨g1, D1, GE⟩ := T.eq_
  obtain ⟨g2, D2, GH⟩ := T.has_
  obtain ⟨p1, _, fd1, P1, B1, G1⟩ := T.lines_
  obtain ⟨p2, _, fd2, P2, B2, G2⟩ := T.tested_
  obtain ⟨p3, _, fd3, P3, B3, G3⟩ := T.prs_
  obtain ⟨p4, _, fd4, P4, B4, G4⟩ := T.plain_
  obtain ⟨p5, _, fd5, P5, B5, G5⟩ := T.reads_
  obtain ⟨g7, D7, G7⟩ := T.str_
  obtain ⟨g8, D8, f8, G8⟩ := T.get
  obtain ⟨fD, fdD, mD, kD, bD, GD⟩ := T.dice
  obtain ⟨fR, fdR, mR, kR, bR, GR⟩ := T.right
  refine F.okG scLw (fun vs H Q E h => ?_) (fun cdv A outer s H vs Q E hgd hr h => ?_)
  · obtain ⟨a, ns, rfl, _⟩ := h; rfl
  · obtain ⟨a, ns, rfl, hS, k⟩ := h
    have hu := hr.units
    have hu66 : (A.deeper (envOfC (Str.ofString "law") (defScope sLw) s.heap.objs.size f cdv)).units + 66 < cLine := by have := hr.un; omega
    have r1 := hr.mono (show 1 ≤ 8 by decide)
    have r2 := hr.mono (show 2 ≤ 8 by decide)
    have r3 := hr.mono (show 3 ≤ 8 by decide)
    have r4 := hr.mono (show 4 ≤ 8 by decide)
    have r5 := hr.mono (show 5 ≤ 8 by decide)
    have r6 := hr.mono (show 6 ≤ 8 by decide)
    have r7 := hr.mono (show 7 ≤ 8 by decide)
    refine ⟨_, pss_cons (ps_for PassesOwn.never rfl (pi_range1 (by rfl) T.range (pa_cons (pe_callB (call_max2 rfl) (by rfl) T.max PyProof.Rows.boot_max (pa_cons pe_int (pa_cons (pe_callB (call_min2 rfl) (by rfl) T.min PyProof.Rows.boot_min (pa_cons pe_int (pa_cons (pe_callB call_len_seq (by rfl) T.len PySem.boot_len (pa_cons (pv 0) pa_nil)) pa_nil))) pa_nil))) pa_nil)) (pg_name (i := 1) scLw.nd rfl (.inl rfl))
        (pss_cons (ps_set (i := 2) scLw.nd rfl (Or.inl rfl) (pe_call GD r1 (by rfl) mD kD bD .nil pass0 (pa_cons (pv 0) (pa_cons (pv 1) pa_nil))))
        (pss_one (ps_for PassesOwn.never rfl (pi_range1 (by rfl) T.range (pa_cons pe_int pa_nil)) (pg_name (i := 3) scLw.nd rfl (.inl rfl))
          (pss_one (ps_if (pt_not (pt_val (pe_callG GR hgd hr (by rfl) mR kR bR (pa_cons (pv 2) pa_nil)))) (pss_one (ps_ret pe_bl)) pss_nil))))))
      (pss_cons (ps_set (i := 4) scLw.nd rfl (Or.inl rfl) (pe_tup (pa_cons (pe_tup (pa_cons pe_str (pa_cons pe_str (pa_cons pe_str pa_nil)))) (pa_cons (pe_tup (pa_cons pe_str (pa_cons pe_str (pa_cons pe_str (pa_cons pe_int pa_nil))))) (pa_cons (pe_tup (pa_cons pe_str (pa_cons pe_str (pa_cons pe_str pa_nil)))) (pa_cons (pe_tup (pa_cons pe_str (pa_cons pe_str (pa_cons pe_str pa_nil)))) (pa_cons (pe_tup (pa_cons pe_str (pa_cons pe_str (pa_cons pe_str pa_nil)))) pa_nil)))))))
      (pss_cons (ps_set (i := 5) scLw.nd rfl (Or.inl rfl) (ClX.pe_cmeth (pe_glob (v := .ref C) (by rfl) T.mgC rfl) cr cm G0 r7 pass0 (pa_cons (pv 4) pa_nil)))
      (pss_cons (ps_set (i := 6) scLw.nd rfl (Or.inl rfl) (pe_lst (pa_cons (pe_prop (pv 5) T.cl P2 G2 r2 B2 .nil pass0 (by rfl)) (pa_cons (pe_prop (pv 5) T.cl P3 G3 r4 B3 .nil pass0 (by rfl)) (pa_cons (pe_prop (pv 5) T.cl P5 G5 r3 B5 .nil pass0 (by rfl)) (pa_cons (pe_prop (pv 5) T.cl P4 G4 r2 B4 .nil pass0 (by rfl)) (pa_cons (pe_subO D8 f8 G8 r6 (fun σ => passN0) (pv 5) pe_int (fun _ _ => rfl)) (pa_cons (pe_callTy (call_strO (E := E0) D7 G7 r3 pass0A) (by rfl) T.str PyProof.Rows.boot_str (pa_cons (pv 5) pa_nil)) pa_nil))))))))
      (pss_cons (ps_expr (pe_bm PySem.F.plainAttrs_list PySem.F.slot_list_append PySem.F.type_list_append mt_append (pv 6) (pa_cons (pe_cmpR (op_inO (E := E0) D2 GH r5 pass0A) (pe_tup (pa_cons pe_str (pa_cons pe_str (pa_cons pe_str (pa_cons pe_bl pa_nil))))) (pv 5) (by rfl)) pa_nil)))
      (pss_cons (ps_set (i := 7) scLw.nd rfl (Or.inl rfl) (pe_lst (pa_cons (pe_tup (pa_cons (pe_tup (pa_cons pe_str (pa_cons pe_str pa_nil))) pa_nil)) (pa_cons (pe_tup (pa_cons (pe_tup (pa_cons pe_str (pa_cons pe_str pa_nil))) (pa_cons (pe_tup (pa_cons pe_str (pa_cons pe_str pa_nil))) (pa_cons (pe_tup (pa_cons pe_str (pa_cons pe_str pa_nil))) (pa_cons (pe_tup (pa_cons pe_str (pa_cons pe_str pa_nil))) pa_nil))))) (pa_cons (pe_disp (pps_cons pe_str (pe_tup (pa_cons pe_str pa_nil)) (pps_cons pe_str (pe_tup (pa_cons pe_str (pa_cons pe_str pa_nil))) pps_nil)) (by rfl) (by rfl) (fun z => by cases z) (by decide)) (pa_cons pe_bl pa_nil))))))
      (pss_cons (ps_if (pt_cmpR (op_neLists hu66) (pv 6) (pe_op op_cat (pv 7) (pe_lst (pa_cons (pe_tup (pa_cons pe_str (pa_cons pe_str (pa_cons pe_str pa_nil)))) (pa_cons pe_str (pa_cons pe_bl pa_nil))))) (nomark _)) (pss_one (ps_ret pe_bl)) pss_nil)
      (pss_cons (ps_par (i := 8) (j := 9) rfl scLw.nd rfl rfl (by decide) rfl rfl (pa_cons (ClX.pe_cmeth (pe_glob (v := .ref C) (by rfl) T.mgC rfl) cr2 cm2 G9 hr pass0 (pa_cons pe_str (pa_cons pe_str (pa_cons pe_str (pa_cons pe_str pa_nil))))) (pa_cons (pe_makeR0 MK GM r6 (by rfl) T.mgC pass0) pa_nil)) (by rfl))
      (pss_cons (ps_set (i := 6) scLw.nd rfl (Or.inl rfl) (pe_lst (pa_cons (pe_prop (pv 8) T.cl P1 G1 r2 B1 .nil pass0 (by rfl)) (pa_cons (pe_prop (pv 8) T.cl P4 G4 r2 B4 .nil pass0 (by rfl)) (pa_cons (pe_prop (pv 8) T.cl P5 G5 r3 B5 .nil pass0 (by rfl)) (pa_cons (pe_cmpR (op_eqO (E := E0) D1 GE r1 pass0A) (pv 8) (ClX.pe_cmeth (pe_glob (v := .ref C) (by rfl) T.mgC rfl) cr cm G0 r7 pass0 (pa_cons (pe_prop (pv 8) T.cl P1 G1 r2 B1 .nil pass0 (by rfl)) pa_nil)) (nomark _)) pa_nil))))))
      (pss_cons (ps_if (pt_cmpR (op_neLists hu66) (pv 6) (pe_lst (pa_cons (pe_tup (pa_cons (pe_tup (pa_cons pe_str (pa_cons pe_str (pa_cons pe_str pa_nil)))) (pa_cons (pe_tup (pa_cons pe_str (pa_cons pe_str (pa_cons pe_str pa_nil)))) (pa_cons (pe_tup (pa_cons pe_str (pa_cons pe_str (pa_cons pe_str pa_nil)))) pa_nil)))) (pa_cons pe_bl (pa_cons (pe_disp (pps_cons pe_str (pe_tup (pa_cons pe_str (pa_cons pe_str (pa_cons pe_str pa_nil)))) pps_nil) (by rfl) (by rfl) (fun z => by cases z) (by decide)) (pa_cons pe_bl pa_nil))))) (nomark _)) (pss_one (ps_ret pe_bl)) pss_nil)
      (pss_cons (ps_set (i := 6) scLw.nd rfl (Or.inl rfl) (pe_lst (pa_cons (pe_prop (pv 9) T.cl P1 G1 r2 B1 .nil pass0 (by rfl)) (pa_cons (pe_prop (pv 9) T.cl P2 G2 r2 B2 .nil pass0 (by rfl)) (pa_cons (pe_prop (pv 9) T.cl P3 G3 r4 B3 .nil pass0 (by rfl)) (pa_cons (pe_prop (pv 9) T.cl P5 G5 r3 B5 .nil pass0 (by rfl)) (pa_cons (pe_prop (pv 9) T.cl P4 G4 r2 B4 .nil pass0 (by rfl)) pa_nil)))))))
      (pss_cons (ps_if (PW.pt (pw_or (pt_cmpR (op_neLists hu66) (pv 6) (pe_lst (pa_cons (pe_tup pa_nil) (pa_cons (pe_tup pa_nil) (pa_cons (pe_tup pa_nil) (pa_cons pe_dnewK (pa_cons pe_bl pa_nil)))))) (nomark _)) (pw_or1 (pt_cmpR op_ne (pe_callTy (call_strO (E := E0) D7 G7 r3 pass0A) (by rfl) T.str PyProof.Rows.boot_str (pa_cons (pv 9) pa_nil)) pe_str (nomark _))))) (pss_one (ps_ret pe_bl)) pss_nil)
      (pss_one (ps_ret (pe_and (pe_cmpR (op_eqO (E := E0) D1 GE r1 pass0A) (pv 9) (ClX.pe_cmeth (pe_glob (v := .ref C) (by rfl) T.mgC rfl) cr2 cm2 G9 hr pass0 (pa_cons pe_str pa_nil)) (nomark _)) (pe_one (pe_cmpR (op_neO (E := E0) T.ne0 T.sub0 D1 GE r2 pass0A) (pv 9) (pv 8) (nomark _))))))))))))))))), ?_⟩
    have nfR : PySem.W.notFirst K C (.ref C) = true := by unfold PySem.W.notFirst; simp
    have tyR : ∀ {H : Hp} {r : Addr} {rs : RowsL}, RdAt K C H r rs → TyX K H (.ref r) (.ref C) := fun h => by
      obtain ⟨dx, L, TT, ps, e, _⟩ := h
      exact .base (.ins e T.cl T.ii.ha T.ii.hn T.ii.htk T.ii.hm)
    have hj : ∀ m : Nat, 0 ≤ (if (if ((m : Nat) : Int) < 5 then ((m : Nat) : Int) else 5) > 1 then (if ((m : Nat) : Int) < 5 then ((m : Nat) : Int) else 5) else 1) ∧ (if (if ((m : Nat) : Int) < 5 then ((m : Nat) : Int) else 5) > 1 then (if ((m : Nat) : Int) < 5 then ((m : Nat) : Int) else 5) else 1) ≤ 5 := fun m => by
      constructor <;> (repeat' split) <;> omega
    refine ⟨_, rfl, a, _, rfl, .inl hS, _, _, rfl, _, _, rfl, _, rfl, ?_, ?_, ?_⟩
    · have := (hj (ns.map V.int).length).1; exact Int.le_trans (by decide) this
    · have := (hj (ns.map V.int).length).2; exact Int.lt_of_le_of_lt this (by decide)
    have hn := (hj (ns.map V.int).length).2
    generalize (if (if (((ns.map V.int).length : Nat) : Int) < 5 then (((ns.map V.int).length : Nat) : Int) else 5) > 1 then (if (((ns.map V.int).length : Nat) : Int) < 5 then (((ns.map V.int).length : Nat) : Int) else 5) else 1) = jj at hn ⊢
    clear hj
    refine for_it walk_range (fun i σ H' => (∃ b c d, σ = [some (.ref a), b, c, d, none, none, none, none, none, none]) ∧ Same H H') ⟨⟨_, _, _, rfl⟩, Same.refl _⟩ (fun _ _ _ _ _ => trivial) ?_ ?_
    · rintro i x σ Ha Hb hi ⟨⟨b, c, d, rfl⟩, s0⟩ ⟨rfl, rfl⟩
      refine ⟨_, rfl, _, rfl, a, ns, i, by (show [V.ref a, V.int (0 + ((i : Nat) : Int))] = _; rw [Int.zero_add]), sqL_up hS s0, by omega, fun p x y np hx => ?_⟩
      have dp : DiceAt (upd Hb p (.lst [.int x, .int y, .int 0])) p := ⟨_, _, _, upd_same, hx⟩
      have sp := same_new (o := HO.lst [V.int x, V.int y, V.int 0]) np
      refine ⟨3, rfl, by decide, by decide, ?_⟩
      refine for_it walk_range (fun i σ H' => (∃ b d, σ = [some (.ref a), b, some (.ref p), d, none, none, none, none, none, none]) ∧ Same Hb H' ∧ DiceAt H' p) ⟨⟨_, _, rfl⟩, sp, dp⟩ (fun _ _ _ _ _ => trivial) ?_ ?_
      · rintro j y2 σ Hc Hd hj ⟨⟨b2, d2, rfl⟩, sc, dc⟩ ⟨rfl, rfl⟩
        refine ⟨_, rfl, p, rfl, dc, fun He ke de => ⟨_, rfl, iteF ?_⟩⟩
        exact ⟨⟨_, _, rfl⟩, fun z u e => ke z u (fun q => by rw [q, np] at e; cases e) (sc z u e), de⟩
      · rintro σ Hf ⟨⟨b2, d2, rfl⟩, sf, _⟩
        exact ⟨⟨_, _, _, rfl⟩, s0.trans sf⟩
    rintro σ H0 ⟨⟨b0, c0, d0, rfl⟩, s0⟩
    clear s0 hS
    refine ⟨(by show 3 ≤ sizeLine; decide), fun t1 n1 => ?_⟩
    have q1 := same_new (o := HO.tup [V.str "read", V.str "b", V.str "y"]) n1
    have h1 : upd H0 t1 (HO.tup [V.str "read", V.str "b", V.str "y"]) t1 = some (HO.tup [V.str "read", V.str "b", V.str "y"]) := upd_same
    generalize upd H0 t1 (HO.tup [V.str "read", V.str "b", V.str "y"]) = H1 at q1 h1 ⊢
    refine ⟨(by show 4 ≤ sizeLine; decide), fun t2 n2 => ?_⟩
    have q2 := same_new (o := HO.tup [V.str "if", V.str "b", V.str "x", V.int 0]) n2
    have h2 : upd H1 t2 (HO.tup [V.str "if", V.str "b", V.str "x", V.int 0]) t2 = some (HO.tup [V.str "if", V.str "b", V.str "x", V.int 0]) := upd_same
    generalize upd H1 t2 (HO.tup [V.str "if", V.str "b", V.str "x", V.int 0]) = H2 at q2 h2 ⊢
    refine ⟨(by show 3 ≤ sizeLine; decide), fun t3 n3 => ?_⟩
    have q3 := same_new (o := HO.tup [V.str "look", V.str "c", V.str "y"]) n3
    have h3 : upd H2 t3 (HO.tup [V.str "look", V.str "c", V.str "y"]) t3 = some (HO.tup [V.str "look", V.str "c", V.str "y"]) := upd_same
    generalize upd H2 t3 (HO.tup [V.str "look", V.str "c", V.str "y"]) = H3 at q3 h3 ⊢
    refine ⟨(by show 3 ≤ sizeLine; decide), fun t4 n4 => ?_⟩
    have q4 := same_new (o := HO.tup [V.str "read", V.str "a", V.str "x"]) n4
    have h4 : upd H3 t4 (HO.tup [V.str "read", V.str "a", V.str "x"]) t4 = some (HO.tup [V.str "read", V.str "a", V.str "x"]) := upd_same
    generalize upd H3 t4 (HO.tup [V.str "read", V.str "a", V.str "x"]) = H4 at q4 h4 ⊢
    refine ⟨(by show 3 ≤ sizeLine; decide), fun t5 n5 => ?_⟩
    have q5 := same_new (o := HO.tup [V.str "read", V.str "b", V.str "x"]) n5
    have h5 : upd H4 t5 (HO.tup [V.str "read", V.str "b", V.str "x"]) t5 = some (HO.tup [V.str "read", V.str "b", V.str "x"]) := upd_same
    generalize upd H4 t5 (HO.tup [V.str "read", V.str "b", V.str "x"]) = H5 at q5 h5 ⊢
    refine ⟨(by show 5 ≤ sizeLine; decide), fun t6 n6 => ?_⟩
    have q6 := same_new (o := HO.tup [V.ref t1, V.ref t2, V.ref t3, V.ref t4, V.ref t5]) n6
    have h6 : upd H5 t6 (HO.tup [V.ref t1, V.ref t2, V.ref t3, V.ref t4, V.ref t5]) t6 = some (HO.tup [V.ref t1, V.ref t2, V.ref t3, V.ref t4, V.ref t5]) := upd_same
    generalize upd H5 t6 (HO.tup [V.ref t1, V.ref t2, V.ref t3, V.ref t4, V.ref t5]) = H6 at q6 h6 ⊢
    obtain ⟨rs, er, hL⟩ : ∃ rs : RowsL, rs.map Prod.snd = five ∧ LinesAt K H6 t6 rs := by
      refine ⟨[(t1, Ln.read "b" "y"), (t2, Ln.ift "b" "x" 0), (t3, Ln.look "c" "y"), (t4, Ln.read "a" "x"), (t5, Ln.read "b" "x")], rfl, SqT.of h6, fun r hr => ?_⟩
      simp only [List.mem_cons, List.not_mem_nil, or_false] at hr
      rcases hr with rfl | rfl | rfl | rfl | rfl
      · exact SqT.of ((q2.trans (q3.trans (q4.trans (q5.trans q6)))) _ _ h1)
      · exact SqT.of ((q3.trans (q4.trans (q5.trans q6))) _ _ h2)
      · exact SqT.of ((q4.trans (q5.trans q6)) _ _ h3)
      · exact SqT.of ((q5.trans q6) _ _ h4)
      · exact SqT.of (q6 _ _ h5)
    have ok := five_ok er
    have safe := lns_safe ok
    have el : lnsOf rs = five := er
    have hl5 : rs.length = 5 := by have := congrArg List.length er; simpa [five] using this
    obtain ⟨x4, hx4, ex4⟩ : ∃ x, rs[4]? = some x ∧ x.2 = Ln.read "b" "x" := by
      have : (rs.map Prod.snd)[4]? = some (Ln.read "b" "x") := by rw [er]; rfl
      rw [List.getElem?_map] at this
      obtain ⟨x, h1, h2⟩ := Option.map_eq_some_iff.mp this
      exact ⟨x, h1, h2⟩
    refine ⟨rfl, _, rfl, t6, rs, rfl, hL, ok, fun H7 r q7 nr hR => ?_⟩
    obtain ⟨dx, L1, T1, ps1, eR, hL1, hA1, hP1⟩ := id hR
    rw [er] at hA1
    obtain rfl := hA1.eq five_if
    refine ⟨_, rfl, r, dx, _, rfl, eR, r, dx, _, _, rfl, eR, rd_tested L1 T1, ?_⟩
    refine ⟨_, rfl, r, dx, _, rfl, eR, r, rs, rfl, hR, ok, fun H8 p5 ps5 q8 np5 hA5 hP5 => ?_⟩
    rw [el] at hA5
    obtain rfl := hA5.eq five_all
    refine ⟨_, rfl, r, dx, _, rfl, (q8 _ _ eR), r, rs, rfl, (hR.up q8), ok, fun H9 D5 kv5 q9 nD5 eD5 rd5 => ?_⟩
    refine ⟨_, rfl, r, dx, _, rfl, ((q8.trans q9) _ _ eR), r, rs, rfl, (hR.up (q8.trans q9)), ok, fun H10 q10 => ?_⟩
    rw [el, five_plain]
    refine ⟨_, rfl, r, dx, _, rfl, ((q8.trans (q9.trans q10)) _ _ eR), r, rs, _, _, rfl, (hR.up (q8.trans (q9.trans q10))), .int _, .inl ⟨4, x4, rfl, hx4, ?_⟩⟩
    refine ⟨_, rfl, r, dx, _, rfl, ((q8.trans (q9.trans q10)) _ _ eR), r, rs, rfl, (hR.up (q8.trans (q9.trans q10))), ok, fun ps6 hA6 => ⟨_, rfl, ?_⟩⟩
    rw [el] at hA6
    obtain rfl := hA6.eq five_if
    rw [hl5, show (([["b", "x"]] : List (List Str))).length = 1 from rfl, text5]
    refine ⟨(by show 6 ≤ sizeLine; decide), fun t11 n11 => ?_⟩
    have q11 := same_new (o := HO.lst [V.ref T1, V.ref p5, V.ref D5, V.bl false, V.ref x4.1, V.str "reader of 5 lines, 1 tested"]) n11
    have h11 : upd H10 t11 (HO.lst [V.ref T1, V.ref p5, V.ref D5, V.bl false, V.ref x4.1, V.str "reader of 5 lines, 1 tested"]) t11 = some (HO.lst [V.ref T1, V.ref p5, V.ref D5, V.bl false, V.ref x4.1, V.str "reader of 5 lines, 1 tested"]) := upd_same
    generalize upd H10 t11 (HO.lst [V.ref T1, V.ref p5, V.ref D5, V.bl false, V.ref x4.1, V.str "reader of 5 lines, 1 tested"]) = H11 at q11 h11 ⊢
    refine ⟨_, rfl, Or.inl ⟨rfl, _, SqL.of h11⟩, ?_⟩
    refine ⟨(by show 4 ≤ sizeLine; decide), fun t12 n12 => ?_⟩
    have q12 := same_new (o := HO.tup [V.str "if", V.str "b", V.str "x", V.bl false]) n12
    have h12 : upd H11 t12 (HO.tup [V.str "if", V.str "b", V.str "x", V.bl false]) t12 = some (HO.tup [V.str "if", V.str "b", V.str "x", V.bl false]) := upd_same
    generalize upd H11 t12 (HO.tup [V.str "if", V.str "b", V.str "x", V.bl false]) = H12 at q12 h12 ⊢
    refine ⟨_, rfl, r, dx, _, rfl, ((q8.trans (q9.trans (q10.trans (q11.trans q12)))) _ _ eR), r, rs, _, rfl, (hR.up (q8.trans (q9.trans (q10.trans (q11.trans q12))))), ok, .inl ⟨.tuple [.str "if", .str "b", .str "x", .bool false], .tup (SqT.of h12) (.cons (.str _) (.cons (.str _) (.cons (.str _) (.cons (.bl _) .nil)))), by decide +kernel, mod_tup (by decide +kernel) (by decide), fun H13 q13 => ⟨_, rfl, ?_⟩⟩⟩
    rw [show lineD (.tuple [.str "if", .str "b", .str "x", .bool false]) rs.length = false from lineD_tup (.inr (by rw [lineT_str]; simp [numD, ne1])), Bool.false_and]
    refine ⟨t11, _, _, rfl, rfl, ((q12.trans q13) _ _ h11), (by show 6 < sizeLine; decide), ?_⟩
    have q14 : Same H10 (upd H13 t11 (HO.lst ([V.ref T1, V.ref p5, V.ref D5, V.bl false, V.ref x4.1, V.str "reader of 5 lines, 1 tested"] ++ [V.bl (false != false)]))) := same_to n11 (q11.trans (q12.trans q13))
    have h14 : upd H13 t11 (HO.lst ([V.ref T1, V.ref p5, V.ref D5, V.bl false, V.ref x4.1, V.str "reader of 5 lines, 1 tested"] ++ [V.bl (false != false)])) t11 = some (HO.lst ([V.ref T1, V.ref p5, V.ref D5, V.bl false, V.ref x4.1, V.str "reader of 5 lines, 1 tested"] ++ [V.bl (false != false)])) := upd_same
    generalize upd H13 t11 (HO.lst ([V.ref T1, V.ref p5, V.ref D5, V.bl false, V.ref x4.1, V.str "reader of 5 lines, 1 tested"] ++ [V.bl (false != false)])) = H14 at q14 h14 ⊢
    have htold := h14
    refine ⟨(by show 2 ≤ sizeLine; decide), fun t15 n15 => ?_⟩
    have q15 := same_new (o := HO.tup [V.str "b", V.str "x"]) n15
    have h15 : upd H14 t15 (HO.tup [V.str "b", V.str "x"]) t15 = some (HO.tup [V.str "b", V.str "x"]) := upd_same
    generalize upd H14 t15 (HO.tup [V.str "b", V.str "x"]) = H15 at q15 h15 ⊢
    refine ⟨(by show 1 ≤ sizeLine; decide), fun t16 n16 => ?_⟩
    have q16 := same_new (o := HO.tup [V.ref t15]) n16
    have h16 : upd H15 t16 (HO.tup [V.ref t15]) t16 = some (HO.tup [V.ref t15]) := upd_same
    generalize upd H15 t16 (HO.tup [V.ref t15]) = H16 at q16 h16 ⊢
    refine ⟨(by show 2 ≤ sizeLine; decide), fun t17 n17 => ?_⟩
    have q17 := same_new (o := HO.tup [V.str "a", V.str "x"]) n17
    have h17 : upd H16 t17 (HO.tup [V.str "a", V.str "x"]) t17 = some (HO.tup [V.str "a", V.str "x"]) := upd_same
    generalize upd H16 t17 (HO.tup [V.str "a", V.str "x"]) = H17 at q17 h17 ⊢
    refine ⟨(by show 2 ≤ sizeLine; decide), fun t18 n18 => ?_⟩
    have q18 := same_new (o := HO.tup [V.str "b", V.str "x"]) n18
    have h18 : upd H17 t18 (HO.tup [V.str "b", V.str "x"]) t18 = some (HO.tup [V.str "b", V.str "x"]) := upd_same
    generalize upd H17 t18 (HO.tup [V.str "b", V.str "x"]) = H18 at q18 h18 ⊢
    refine ⟨(by show 2 ≤ sizeLine; decide), fun t19 n19 => ?_⟩
    have q19 := same_new (o := HO.tup [V.str "b", V.str "y"]) n19
    have h19 : upd H18 t19 (HO.tup [V.str "b", V.str "y"]) t19 = some (HO.tup [V.str "b", V.str "y"]) := upd_same
    generalize upd H18 t19 (HO.tup [V.str "b", V.str "y"]) = H19 at q19 h19 ⊢
    refine ⟨(by show 2 ≤ sizeLine; decide), fun t20 n20 => ?_⟩
    have q20 := same_new (o := HO.tup [V.str "c", V.str "y"]) n20
    have h20 : upd H19 t20 (HO.tup [V.str "c", V.str "y"]) t20 = some (HO.tup [V.str "c", V.str "y"]) := upd_same
    generalize upd H19 t20 (HO.tup [V.str "c", V.str "y"]) = H20 at q20 h20 ⊢
    refine ⟨(by show 4 ≤ sizeLine; decide), fun t21 n21 => ?_⟩
    have q21 := same_new (o := HO.tup [V.ref t17, V.ref t18, V.ref t19, V.ref t20]) n21
    have h21 : upd H20 t21 (HO.tup [V.ref t17, V.ref t18, V.ref t19, V.ref t20]) t21 = some (HO.tup [V.ref t17, V.ref t18, V.ref t19, V.ref t20]) := upd_same
    generalize upd H20 t21 (HO.tup [V.ref t17, V.ref t18, V.ref t19, V.ref t20]) = H21 at q21 h21 ⊢
    intro t22 n22
    have q22 := same_new (o := HO.dK []) n22
    have h22 : upd H21 t22 (HO.dK []) t22 = some (HO.dK []) := upd_same
    generalize upd H21 t22 (HO.dK []) = H22 at q22 h22 ⊢
    refine ⟨(by show 1 ≤ sizeLine; decide), fun t23 n23 => ?_⟩
    have q23 := same_new (o := HO.tup [V.str "x"]) n23
    have h23 : upd H22 t23 (HO.tup [V.str "x"]) t23 = some (HO.tup [V.str "x"]) := upd_same
    generalize upd H22 t23 (HO.tup [V.str "x"]) = H23 at q23 h23 ⊢
    refine ⟨(by show 2 ≤ sizeLine; decide), fun t24 n24 => ?_⟩
    have q24 := same_new (o := HO.tup [V.str "y", V.str "x"]) n24
    have h24 : upd H23 t24 (HO.tup [V.str "y", V.str "x"]) t24 = some (HO.tup [V.str "y", V.str "x"]) := upd_same
    generalize upd H23 t24 (HO.tup [V.str "y", V.str "x"]) = H24 at q24 h24 ⊢
    refine ⟨((q23.trans q24) _ _ h22), [kS "a" (V.ref t23), kS "b" (V.ref t24)], rfl, (by show 2 ≤ 15; decide), ?_⟩
    rw [merge2]
    have et0 : upd H24 t22 (.dK [kS "a" (V.ref t23), kS "b" (V.ref t24)]) t23 = some (.tup [V.str "x"]) := by
      rw [upd_ne (fun z => by have e1 := (q24 _ _ h23); have e2 := ((q23.trans q24) _ _ h22); rw [z] at e1; rw [e1] at e2; cases e2)]; exact (q24 _ _ h23)
    have et1 : upd H24 t22 (.dK [kS "a" (V.ref t23), kS "b" (V.ref t24)]) t24 = some (.tup [V.str "y", V.str "x"]) := by
      rw [upd_ne (fun z => by have e1 := h24; have e2 := ((q23.trans q24) _ _ h22); rw [z] at e1; rw [e1] at e2; cases e2)]; exact h24
    have q25 : Same H21 (upd H24 t22 (.dK [kS "a" (V.ref t23), kS "b" (V.ref t24)])) := same_to n22 (q22.trans (q23.trans q24))
    have ed : upd H24 t22 (.dK [kS "a" (V.ref t23), kS "b" (V.ref t24)]) t22 = some (.dK [kS "a" (V.ref t23), kS "b" (V.ref t24)]) := upd_same
    generalize upd H24 t22 (HO.dK [kS "a" (V.ref t23), kS "b" (V.ref t24)]) = H25 at q25 ed et0 et1 ⊢
    refine ⟨(by show 4 ≤ sizeLine; decide), fun t26 n26 => ?_⟩
    have q26 := same_new (o := HO.lst [V.ref t16, V.ref t21, V.ref t22, V.bl false]) n26
    have h26 : upd H25 t26 (HO.lst [V.ref t16, V.ref t21, V.ref t22, V.bl false]) t26 = some (HO.lst [V.ref t16, V.ref t21, V.ref t22, V.bl false]) := upd_same
    generalize upd H25 t26 (HO.lst [V.ref t16, V.ref t21, V.ref t22, V.bl false]) = H26 at q26 h26 ⊢
    refine ⟨_, rfl, _, rfl, ?_⟩
    refine ⟨(by show 3 ≤ sizeLine; decide), fun t27 n27 => ?_⟩
    have q27 := same_new (o := HO.tup [V.str "read", V.str "b", V.str "x"]) n27
    have h27 : upd H26 t27 (HO.tup [V.str "read", V.str "b", V.str "x"]) t27 = some (HO.tup [V.str "read", V.str "b", V.str "x"]) := upd_same
    generalize upd H26 t27 (HO.tup [V.str "read", V.str "b", V.str "x"]) = H27 at q27 h27 ⊢
    refine ⟨(by show 3 ≤ sizeLine; decide), fun t28 n28 => ?_⟩
    have q28 := same_new (o := HO.lst [V.ref t27, V.str "reader of 5 lines, 1 tested", V.bl false]) n28
    have h28 : upd H27 t28 (HO.lst [V.ref t27, V.str "reader of 5 lines, 1 tested", V.bl false]) t28 = some (HO.lst [V.ref t27, V.str "reader of 5 lines, 1 tested", V.bl false]) := upd_same
    generalize upd H27 t28 (HO.lst [V.ref t27, V.str "reader of 5 lines, 1 tested", V.bl false]) = H28 at q28 h28 ⊢
    refine ⟨t26, t28, _, _, rfl, rfl, ((q27.trans q28) _ _ h26), h28, (by show 4 + 3 ≤ sizeLine; decide), fun t29 n29 => ?_⟩
    have q29 := same_new (o := HO.lst ([V.ref t16, V.ref t21, V.ref t22, V.bl false] ++ [V.ref t27, V.str "reader of 5 lines, 1 tested", V.bl false])) n29
    have h29 : upd H28 t29 (HO.lst ([V.ref t16, V.ref t21, V.ref t22, V.bl false] ++ [V.ref t27, V.str "reader of 5 lines, 1 tested", V.bl false])) t29 = some (HO.lst ([V.ref t16, V.ref t21, V.ref t22, V.bl false] ++ [V.ref t27, V.str "reader of 5 lines, 1 tested", V.bl false])) := upd_same
    generalize upd H28 t29 (HO.lst ([V.ref t16, V.ref t21, V.ref t22, V.bl false] ++ [V.ref t27, V.str "reader of 5 lines, 1 tested", V.bl false])) = H29 at q29 h29 ⊢
    have i1 : DatEq K H29 (.ref T1) (.ref t16) := dat_same (d := pDs [["b", "x"]]) (hP1.up (q8.trans (q9.trans (q10.trans (q14.trans (q15.trans (q16.trans (q17.trans (q18.trans (q19.trans (q20.trans (q21.trans (q25.trans (q26.trans (q27.trans (q28.trans q29)))))))))))))))).dp (.tup (SqT.of ((q17.trans (q18.trans (q19.trans (q20.trans (q21.trans (q25.trans (q26.trans (q27.trans (q28.trans q29))))))))) _ _ h16)) (.cons (.tup (SqT.of ((q16.trans (q17.trans (q18.trans (q19.trans (q20.trans (q21.trans (q25.trans (q26.trans (q27.trans (q28.trans q29)))))))))) _ _ h15)) (.cons (.str _) (.cons (.str _) .nil))) .nil)) (by decide +kernel)
    have i2 : DatEq K H29 (.ref p5) (.ref t21) := dat_same (d := pDs [["a", "x"], ["b", "x"], ["b", "y"], ["c", "y"]]) (hP5.up (q9.trans (q10.trans (q14.trans (q15.trans (q16.trans (q17.trans (q18.trans (q19.trans (q20.trans (q21.trans (q25.trans (q26.trans (q27.trans (q28.trans q29))))))))))))))).dp (.tup (SqT.of ((q25.trans (q26.trans (q27.trans (q28.trans q29)))) _ _ h21)) (.cons (.tup (SqT.of ((q18.trans (q19.trans (q20.trans (q21.trans (q25.trans (q26.trans (q27.trans (q28.trans q29)))))))) _ _ h17)) (.cons (.str _) (.cons (.str _) .nil))) (.cons (.tup (SqT.of ((q19.trans (q20.trans (q21.trans (q25.trans (q26.trans (q27.trans (q28.trans q29))))))) _ _ h18)) (.cons (.str _) (.cons (.str _) .nil))) (.cons (.tup (SqT.of ((q20.trans (q21.trans (q25.trans (q26.trans (q27.trans (q28.trans q29)))))) _ _ h19)) (.cons (.str _) (.cons (.str _) .nil))) (.cons (.tup (SqT.of ((q21.trans (q25.trans (q26.trans (q27.trans (q28.trans q29))))) _ _ h20)) (.cons (.str _) (.cons (.str _) .nil))) .nil))))) (by decide +kernel)
    have i3 : DicEq K H29 (.ref D5) (.ref t22) := by
      refine dic_reads safe ((q10.trans (q14.trans (q15.trans (q16.trans (q17.trans (q18.trans (q19.trans (q20.trans (q21.trans (q25.trans (q26.trans (q27.trans (q28.trans q29))))))))))))) _ _ eD5) ((q26.trans (q27.trans (q28.trans q29))) _ _ ed) (rd5.up (q10.trans (q14.trans (q15.trans (q16.trans (q17.trans (q18.trans (q19.trans (q20.trans (q21.trans (q25.trans (q26.trans (q27.trans (q28.trans q29)))))))))))))) ⟨[("a", t23), ("b", t24)], rfl, by rw [el]; exact five_tabs, fun e he => ?_⟩
      rcases List.mem_cons.mp he with rfl | he
      · show H29 t23 = some (.tup ((partsOf "a" (lnsOf rs)).map V.str))
        rw [el, five_a]; exact ((q26.trans (q27.trans (q28.trans q29))) _ _ et0)
      · rw [List.mem_singleton.mp he]
        show H29 t24 = some (.tup ((partsOf "b" (lnsOf rs)).map V.str))
        rw [el, five_b]; exact ((q26.trans (q27.trans (q28.trans q29))) _ _ et1)
    have h4 := ((hL.up (q7.trans (q8.trans (q9.trans (q10.trans (q14.trans (q15.trans (q16.trans (q17.trans (q18.trans (q19.trans (q20.trans (q21.trans (q25.trans (q26.trans (q27.trans (q28.trans q29)))))))))))))))))).2 x4 (List.mem_of_getElem? hx4)
    rw [ex4] at h4
    have i5 : DatEq K H29 (.ref x4.1) (.ref t27) := dat_same (d := (Ln.read "b" "x").d) (ln_dp h4) (.tup (SqT.of ((q28.trans q29) _ _ h27)) (.cons (.str _) (.cons (.str _) (.cons (.str _) .nil)))) (by decide +kernel)
    refine ⟨t11, t29, _, _, rfl, rfl, SqL.of ((q15.trans (q16.trans (q17.trans (q18.trans (q19.trans (q20.trans (q21.trans (q25.trans (q26.trans (q27.trans (q28.trans q29))))))))))) _ _ htold), SqL.of h29, .cons (.inl i1) (.cons (.inl i2) (.cons (.inr i3) (.cons (.inl bool_same) (.cons (.inl i5) (.cons (.inl (str_same (by decide +kernel))) (.cons (.inl (bool_same (b := false))) .nil)))))), _, rfl, iteF ?_⟩
    refine ⟨rfl, [.ref C, .str "a"], [.str "y", .str "x", .str "y"], rfl, rfl, (by show 3 ≤ sizeLine; decide), fun tp np => ⟨"a", tp, ["y", "x", "y"], rfl, SqT.of upd_same, by decide +kernel, by decide +kernel, by decide, fun H30 r2 rs2 sk30 nr2 er2 hR2 => ?_⟩⟩
    have q30 := (same_new (o := HO.tup [V.str "y", V.str "x", V.str "y"]) np).trans sk30
    have el2 : lnsOf rs2 = three := er2
    have ok2 : RdOk rs2 := reads_ok er2 (by decide +kernel) (by decide +kernel) (by decide)
    have safe2 := lns_safe ok2
    obtain ⟨dx2, L2, T2, ps2, eR2, hL2, _⟩ := id hR2
    refine fun r3 dr3 nr3 nd3 ne3 => ?_
    refine made_here (rs := []) (fun _ h => nomatch h) nil_ok nr3 nd3 fun H31 q31 hR3 => ⟨rfl, ?_⟩
    obtain ⟨dx3, L3, T3, ps3, eR3, hL3, hA3, hP3⟩ := id hR3
    obtain rfl := nil_if hA3
    refine ⟨_, _, rfl, ?_⟩
    refine ⟨_, rfl, r2, dx2, _, rfl, (q31 _ _ eR2), r2, dx2, _, _, rfl, (q31 _ _ eR2), rd_lines L2 T2, ?_⟩
    refine ⟨_, rfl, r2, dx2, _, rfl, (q31 _ _ eR2), r2, rs2, rfl, (hR2.up q31), ok2, fun H32 q32 => ?_⟩
    rw [el2, three_plain]
    refine ⟨_, rfl, r2, dx2, _, rfl, ((q31.trans q32) _ _ eR2), r2, rs2, rfl, (hR2.up (q31.trans q32)), ok2, fun H33 D6 kv6 q33 nD6 eD6 rd6 => ?_⟩
    refine ⟨_, rfl, rfl, _, rfl, r2, dx2, _, rfl, ((q31.trans (q32.trans q33)) _ _ eR2), r2, dx2, _, _, rfl, ((q31.trans (q32.trans q33)) _ _ eR2), rd_lines L2 T2, L2, rs2, rfl, (hL2.up (q31.trans (q32.trans q33))), ok2, fun H34 rq q34 nq hq => ?_⟩
    refine ⟨r2, dx2, _, .ref C, rfl, ((q31.trans (q32.trans (q33.trans q34))) _ _ eR2), tyR hq, nfR, r2, rs2, _, rfl, (hR2.up (q31.trans (q32.trans (q33.trans q34)))), ok2, .inl ⟨rq, rs2, rfl, hq, ok2, _, rfl, ?_⟩⟩
    rw [decide_eq_true rfl]
    refine ⟨(by show 4 ≤ sizeLine; decide), fun t35 n35 => ?_⟩
    have q35 := same_new (o := HO.lst [V.ref L2, V.bl true, V.ref D6, V.bl (true != false)]) n35
    have h35 : upd H34 t35 (HO.lst [V.ref L2, V.bl true, V.ref D6, V.bl (true != false)]) t35 = some (HO.lst [V.ref L2, V.bl true, V.ref D6, V.bl (true != false)]) := upd_same
    generalize upd H34 t35 (HO.lst [V.ref L2, V.bl true, V.ref D6, V.bl (true != false)]) = H35 at q35 h35 ⊢
    refine ⟨_, rfl, ?_⟩
    refine ⟨(by show 3 ≤ sizeLine; decide), fun t36 n36 => ?_⟩
    have q36 := same_new (o := HO.tup [V.str "read", V.str "a", V.str "y"]) n36
    have h36 : upd H35 t36 (HO.tup [V.str "read", V.str "a", V.str "y"]) t36 = some (HO.tup [V.str "read", V.str "a", V.str "y"]) := upd_same
    generalize upd H35 t36 (HO.tup [V.str "read", V.str "a", V.str "y"]) = H36 at q36 h36 ⊢
    refine ⟨(by show 3 ≤ sizeLine; decide), fun t37 n37 => ?_⟩
    have q37 := same_new (o := HO.tup [V.str "read", V.str "a", V.str "x"]) n37
    have h37 : upd H36 t37 (HO.tup [V.str "read", V.str "a", V.str "x"]) t37 = some (HO.tup [V.str "read", V.str "a", V.str "x"]) := upd_same
    generalize upd H36 t37 (HO.tup [V.str "read", V.str "a", V.str "x"]) = H37 at q37 h37 ⊢
    refine ⟨(by show 3 ≤ sizeLine; decide), fun t38 n38 => ?_⟩
    have q38 := same_new (o := HO.tup [V.str "read", V.str "a", V.str "y"]) n38
    have h38 : upd H37 t38 (HO.tup [V.str "read", V.str "a", V.str "y"]) t38 = some (HO.tup [V.str "read", V.str "a", V.str "y"]) := upd_same
    generalize upd H37 t38 (HO.tup [V.str "read", V.str "a", V.str "y"]) = H38 at q38 h38 ⊢
    refine ⟨(by show 3 ≤ sizeLine; decide), fun t39 n39 => ?_⟩
    have q39 := same_new (o := HO.tup [V.ref t36, V.ref t37, V.ref t38]) n39
    have h39 : upd H38 t39 (HO.tup [V.ref t36, V.ref t37, V.ref t38]) t39 = some (HO.tup [V.ref t36, V.ref t37, V.ref t38]) := upd_same
    generalize upd H38 t39 (HO.tup [V.ref t36, V.ref t37, V.ref t38]) = H39 at q39 h39 ⊢
    intro t40 n40
    have q40 := same_new (o := HO.dK []) n40
    have h40 : upd H39 t40 (HO.dK []) t40 = some (HO.dK []) := upd_same
    generalize upd H39 t40 (HO.dK []) = H40 at q40 h40 ⊢
    refine ⟨(by show 3 ≤ sizeLine; decide), fun t41 n41 => ?_⟩
    have q41 := same_new (o := HO.tup [V.str "y", V.str "x", V.str "y"]) n41
    have h41 : upd H40 t41 (HO.tup [V.str "y", V.str "x", V.str "y"]) t41 = some (HO.tup [V.str "y", V.str "x", V.str "y"]) := upd_same
    generalize upd H40 t41 (HO.tup [V.str "y", V.str "x", V.str "y"]) = H41 at q41 h41 ⊢
    refine ⟨(q41 _ _ h40), [kS "a" (V.ref t41)], rfl, (by show 1 ≤ 15; decide), ?_⟩
    rw [merge1]
    have ft0 : upd H41 t40 (.dK [kS "a" (V.ref t41)]) t41 = some (.tup [V.str "y", V.str "x", V.str "y"]) := by
      rw [upd_ne (fun z => by have e1 := h41; have e2 := (q41 _ _ h40); rw [z] at e1; rw [e1] at e2; cases e2)]; exact h41
    have q42 : Same H39 (upd H41 t40 (.dK [kS "a" (V.ref t41)])) := same_to n40 (q40.trans q41)
    have fd : upd H41 t40 (.dK [kS "a" (V.ref t41)]) t40 = some (.dK [kS "a" (V.ref t41)]) := upd_same
    generalize upd H41 t40 (HO.dK [kS "a" (V.ref t41)]) = H42 at q42 fd ft0 ⊢
    refine ⟨(by show 4 ≤ sizeLine; decide), fun t43 n43 => ?_⟩
    have q43 := same_new (o := HO.lst [V.ref t39, V.bl true, V.ref t40, V.bl true]) n43
    have h43 : upd H42 t43 (HO.lst [V.ref t39, V.bl true, V.ref t40, V.bl true]) t43 = some (HO.lst [V.ref t39, V.bl true, V.ref t40, V.bl true]) := upd_same
    generalize upd H42 t43 (HO.lst [V.ref t39, V.bl true, V.ref t40, V.bl true]) = H43 at q43 h43 ⊢
    have j1 : DatEq K H43 (.ref L2) (.ref t39) := dat_same (d := dls three) (by rw [← el2]; exact (hL2.up (q31.trans (q32.trans (q33.trans (q34.trans (q35.trans (q36.trans (q37.trans (q38.trans (q39.trans (q42.trans q43))))))))))).dp) (.tup (SqT.of ((q42.trans q43) _ _ h39)) (.cons (.tup (SqT.of ((q37.trans (q38.trans (q39.trans (q42.trans q43)))) _ _ h36)) (.cons (.str _) (.cons (.str _) (.cons (.str _) .nil)))) (.cons (.tup (SqT.of ((q38.trans (q39.trans (q42.trans q43))) _ _ h37)) (.cons (.str _) (.cons (.str _) (.cons (.str _) .nil)))) (.cons (.tup (SqT.of ((q39.trans (q42.trans q43)) _ _ h38)) (.cons (.str _) (.cons (.str _) (.cons (.str _) .nil)))) .nil)))) (by decide +kernel)
    have j3 : DicEq K H43 (.ref D6) (.ref t40) := by
      refine dic_reads safe2 ((q34.trans (q35.trans (q36.trans (q37.trans (q38.trans (q39.trans (q42.trans q43))))))) _ _ eD6) (q43 _ _ fd) (rd6.up (q34.trans (q35.trans (q36.trans (q37.trans (q38.trans (q39.trans (q42.trans q43)))))))) ⟨[("a", t41)], rfl, by rw [el2]; exact three_tabs, fun e he => ?_⟩
      rw [List.mem_singleton.mp he]
      show H43 t41 = some (.tup ((partsOf "a" (lnsOf rs2)).map V.str))
      rw [el2, three_a]; exact (q43 _ _ ft0)
    refine ⟨t35, t43, _, _, rfl, rfl, SqL.of ((q36.trans (q37.trans (q38.trans (q39.trans (q42.trans q43))))) _ _ h35), SqL.of h43, .cons (.inl j1) (.cons (.inl bool_same) (.cons (.inr j3) (.cons (.inl (bool_same (b := true))) .nil))), _, rfl, iteF ?_⟩
    refine ⟨_, rfl, r3, dx3, _, rfl, ((q32.trans (q33.trans (q34.trans (q35.trans (q36.trans (q37.trans (q38.trans (q39.trans (q42.trans q43))))))))) _ _ eR3), r3, dx3, _, _, rfl, ((q32.trans (q33.trans (q34.trans (q35.trans (q36.trans (q37.trans (q38.trans (q39.trans (q42.trans q43))))))))) _ _ eR3), rd_lines L3 T3, ?_⟩
    refine ⟨_, rfl, r3, dx3, _, rfl, ((q32.trans (q33.trans (q34.trans (q35.trans (q36.trans (q37.trans (q38.trans (q39.trans (q42.trans q43))))))))) _ _ eR3), r3, dx3, _, _, rfl, ((q32.trans (q33.trans (q34.trans (q35.trans (q36.trans (q37.trans (q38.trans (q39.trans (q42.trans q43))))))))) _ _ eR3), rd_tested L3 T3, ?_⟩
    refine ⟨_, rfl, r3, dx3, _, rfl, ((q32.trans (q33.trans (q34.trans (q35.trans (q36.trans (q37.trans (q38.trans (q39.trans (q42.trans q43))))))))) _ _ eR3), r3, [], rfl, (hR3.up (q32.trans (q33.trans (q34.trans (q35.trans (q36.trans (q37.trans (q38.trans (q39.trans (q42.trans q43)))))))))), nil_ok, fun H44 p7 ps7 q44 np7 hA7 hP7 => ?_⟩
    obtain rfl := nil_all hA7
    refine ⟨_, rfl, r3, dx3, _, rfl, ((q32.trans (q33.trans (q34.trans (q35.trans (q36.trans (q37.trans (q38.trans (q39.trans (q42.trans (q43.trans q44)))))))))) _ _ eR3), r3, [], rfl, (hR3.up (q32.trans (q33.trans (q34.trans (q35.trans (q36.trans (q37.trans (q38.trans (q39.trans (q42.trans (q43.trans q44))))))))))), nil_ok, fun H45 D7 kv7 q45 nD7 eD7 rd7 => ?_⟩
    obtain rfl := nil_reads rd7
    refine ⟨_, rfl, r3, dx3, _, rfl, ((q32.trans (q33.trans (q34.trans (q35.trans (q36.trans (q37.trans (q38.trans (q39.trans (q42.trans (q43.trans (q44.trans q45))))))))))) _ _ eR3), r3, [], rfl, (hR3.up (q32.trans (q33.trans (q34.trans (q35.trans (q36.trans (q37.trans (q38.trans (q39.trans (q42.trans (q43.trans (q44.trans q45)))))))))))), nil_ok, fun H46 q46 => ?_⟩
    rw [show ((lnsOf []).all fun l => decide (l.word = ("read" : Str))) = true from rfl]
    refine ⟨(by show 5 ≤ sizeLine; decide), fun t47 n47 => ?_⟩
    have q47 := same_new (o := HO.lst [V.ref L3, V.ref T3, V.ref p7, V.ref D7, V.bl true]) n47
    have h47 : upd H46 t47 (HO.lst [V.ref L3, V.ref T3, V.ref p7, V.ref D7, V.bl true]) t47 = some (HO.lst [V.ref L3, V.ref T3, V.ref p7, V.ref D7, V.bl true]) := upd_same
    generalize upd H46 t47 (HO.lst [V.ref L3, V.ref T3, V.ref p7, V.ref D7, V.bl true]) = H47 at q47 h47 ⊢
    refine ⟨_, rfl, ?_⟩
    refine ⟨(by show 0 ≤ sizeLine; decide), fun t48 n48 => ?_⟩
    have q48 := same_new (o := HO.tup []) n48
    have h48 : upd H47 t48 (HO.tup []) t48 = some (HO.tup []) := upd_same
    generalize upd H47 t48 (HO.tup []) = H48 at q48 h48 ⊢
    refine ⟨(by show 0 ≤ sizeLine; decide), fun t49 n49 => ?_⟩
    have q49 := same_new (o := HO.tup []) n49
    have h49 : upd H48 t49 (HO.tup []) t49 = some (HO.tup []) := upd_same
    generalize upd H48 t49 (HO.tup []) = H49 at q49 h49 ⊢
    refine ⟨(by show 0 ≤ sizeLine; decide), fun t50 n50 => ?_⟩
    have q50 := same_new (o := HO.tup []) n50
    have h50 : upd H49 t50 (HO.tup []) t50 = some (HO.tup []) := upd_same
    generalize upd H49 t50 (HO.tup []) = H50 at q50 h50 ⊢
    intro t51 n51
    have q51 := same_new (o := HO.dK []) n51
    have h51 : upd H50 t51 (HO.dK []) t51 = some (HO.dK []) := upd_same
    generalize upd H50 t51 (HO.dK []) = H51 at q51 h51 ⊢
    refine ⟨(by show 5 ≤ sizeLine; decide), fun t52 n52 => ?_⟩
    have q52 := same_new (o := HO.lst [V.ref t48, V.ref t49, V.ref t50, V.ref t51, V.bl true]) n52
    have h52 : upd H51 t52 (HO.lst [V.ref t48, V.ref t49, V.ref t50, V.ref t51, V.bl true]) t52 = some (HO.lst [V.ref t48, V.ref t49, V.ref t50, V.ref t51, V.bl true]) := upd_same
    generalize upd H51 t52 (HO.lst [V.ref t48, V.ref t49, V.ref t50, V.ref t51, V.bl true]) = H52 at q52 h52 ⊢
    have k1 : DatEq K H52 (.ref L3) (.ref t48) := dat_same (d := .tuple []) (hL3.up (q32.trans (q33.trans (q34.trans (q35.trans (q36.trans (q37.trans (q38.trans (q39.trans (q42.trans (q43.trans (q44.trans (q45.trans (q46.trans (q47.trans (q48.trans (q49.trans (q50.trans (q51.trans q52))))))))))))))))))).dp (.tup (SqT.of ((q49.trans (q50.trans (q51.trans q52))) _ _ h48)) .nil) (by decide +kernel)
    have k2 : DatEq K H52 (.ref T3) (.ref t49) := dat_same (d := .tuple []) (hP3.up (q32.trans (q33.trans (q34.trans (q35.trans (q36.trans (q37.trans (q38.trans (q39.trans (q42.trans (q43.trans (q44.trans (q45.trans (q46.trans (q47.trans (q48.trans (q49.trans (q50.trans (q51.trans q52))))))))))))))))))).dp (.tup (SqT.of ((q50.trans (q51.trans q52)) _ _ h49)) .nil) (by decide +kernel)
    have k3 : DatEq K H52 (.ref p7) (.ref t50) := dat_same (d := .tuple []) (hP7.up (q45.trans (q46.trans (q47.trans (q48.trans (q49.trans (q50.trans (q51.trans q52)))))))).dp (.tup (SqT.of ((q51.trans q52) _ _ h50)) .nil) (by decide +kernel)
    have k4 : DicEq K H52 (.ref D7) (.ref t51) := ⟨_, _, [], [], rfl, rfl, ((q46.trans (q47.trans (q48.trans (q49.trans (q50.trans (q51.trans q52)))))) _ _ eD7), (q52 _ _ h51), rfl, fun _ h => nomatch h⟩
    refine ⟨t47, t52, _, _, rfl, rfl, SqL.of ((q48.trans (q49.trans (q50.trans (q51.trans q52)))) _ _ h47), SqL.of h52, .cons (.inl k1) (.cons (.inl k2) (.cons (.inl k3) (.cons (.inr k4) (.cons (.inl (bool_same (b := true))) .nil)))), _, rfl, iteF ?_⟩
    refine ⟨_, rfl, r3, dx3, _, rfl, ((q32.trans (q33.trans (q34.trans (q35.trans (q36.trans (q37.trans (q38.trans (q39.trans (q42.trans (q43.trans (q44.trans (q45.trans (q46.trans (q47.trans (q48.trans (q49.trans (q50.trans (q51.trans q52)))))))))))))))))) _ _ eR3), r3, [], rfl, (hR3.up (q32.trans (q33.trans (q34.trans (q35.trans (q36.trans (q37.trans (q38.trans (q39.trans (q42.trans (q43.trans (q44.trans (q45.trans (q46.trans (q47.trans (q48.trans (q49.trans (q50.trans (q51.trans q52))))))))))))))))))), nil_ok, fun ps8 hA8 => ⟨_, rfl, ?_⟩⟩
    obtain rfl := nil_if hA8
    rw [show (([] : RowsL)).length = 0 from rfl, show (([] : List (List Str))).length = 0 from rfl, text0]
    refine ⟨rfl, _, rfl, ite2 (fun c => absurd c (by simp)) fun _ => ?_⟩
    refine ⟨_, rfl, rfl, [.ref C, .str "a"], [], rfl, rfl, (by show 0 ≤ sizeLine; decide), fun tp2 np2 => ⟨"a", tp2, [], rfl, SqT.of upd_same, by decide +kernel, (fun _ h => nomatch h), by decide, fun H53 r4 rs4 sk53 nr4 er4 hR4 => ?_⟩⟩
    have q53 := (same_new (o := HO.tup []) np2).trans sk53
    have el4 : lnsOf rs4 = [] := er4
    have ok4 : RdOk rs4 := reads_ok er4 (by decide +kernel) (fun _ h => nomatch h) (by decide)
    refine ⟨r3, dx3, _, .ref C, rfl, ((q32.trans (q33.trans (q34.trans (q35.trans (q36.trans (q37.trans (q38.trans (q39.trans (q42.trans (q43.trans (q44.trans (q45.trans (q46.trans (q47.trans (q48.trans (q49.trans (q50.trans (q51.trans (q52.trans q53))))))))))))))))))) _ _ eR3), tyR hR4, nfR, r3, [], _, rfl, (hR3.up (q32.trans (q33.trans (q34.trans (q35.trans (q36.trans (q37.trans (q38.trans (q39.trans (q42.trans (q43.trans (q44.trans (q45.trans (q46.trans (q47.trans (q48.trans (q49.trans (q50.trans (q51.trans (q52.trans q53)))))))))))))))))))), nil_ok, .inl ⟨r4, rs4, rfl, hR4, ok4, _, rfl, _, rfl, ?_⟩⟩
    rw [decide_eq_true (show lnsOf [] = lnsOf rs4 by rw [el4]; rfl)]
    refine iteT ?_
    refine ⟨_, rfl, _, rfl, r3, dx3, _, .ref C, rfl, ((q32.trans (q33.trans (q34.trans (q35.trans (q36.trans (q37.trans (q38.trans (q39.trans (q42.trans (q43.trans (q44.trans (q45.trans (q46.trans (q47.trans (q48.trans (q49.trans (q50.trans (q51.trans (q52.trans q53))))))))))))))))))) _ _ eR3), tyR (hR2.up (q31.trans (q32.trans (q33.trans (q34.trans (q35.trans (q36.trans (q37.trans (q38.trans (q39.trans (q42.trans (q43.trans (q44.trans (q45.trans (q46.trans (q47.trans (q48.trans (q49.trans (q50.trans (q51.trans (q52.trans q53))))))))))))))))))))), nfR, r3, [], _, rfl, (hR3.up (q32.trans (q33.trans (q34.trans (q35.trans (q36.trans (q37.trans (q38.trans (q39.trans (q42.trans (q43.trans (q44.trans (q45.trans (q46.trans (q47.trans (q48.trans (q49.trans (q50.trans (q51.trans (q52.trans q53)))))))))))))))))))), nil_ok, .inl ⟨r2, rs2, rfl, (hR2.up (q31.trans (q32.trans (q33.trans (q34.trans (q35.trans (q36.trans (q37.trans (q38.trans (q39.trans (q42.trans (q43.trans (q44.trans (q45.trans (q46.trans (q47.trans (q48.trans (q49.trans (q50.trans (q51.trans (q52.trans q53))))))))))))))))))))), ok2, _, rfl, ?_⟩⟩
    rw [decide_eq_false (show ¬ lnsOf [] = lnsOf rs2 by rw [el2]; exact three_ne)]
    exact k _
end
end Rd

namespace Rd
open PySem PySem.Spec PyProof.Rows L2 Tq Dn Dc Ox
def noB (K : PySem.W.Frag) (C : Addr) : Bool := tys.all fun t => PySem.W.kitOne K (.type t) (.ref C) == some false
def nfB (K : PySem.W.Frag) (C : Addr) : Bool := tys.all fun t => PySem.W.notFirst K C (.type t)
theorem all_mk {P : Program} {w : World} {K : PySem.W.Frag} {h : Heap} {mg : Str → Option Value} {fa C CN J : Addr} {f0 f1 f2 f3 f4 f5 f6 f7 f8 f9 f10 f11 f12 f13 f14 f15 f16 f17 f18 f19 : Addr} {g0 g1 g2 g3 g4 g5 g6 g7 g8 g9 g10 g11 g12 g13 : Addr} {p1 p2 p3 p4 p5 p6 p7 : Addr} {rest1 rest2 rest3 rest4 rest5 rest6 rest7 : List Value} {tL tT : Tok} (X : K.In h) (G : h.Ns mainGlobals mg) (hfa : mg "law" = some (.ref fa))
    {od0 an0 : Option Addr} {sl0 : Array (Option Value)} {oc0 kV0 dc0 pm0 cd0 ct0 : Value}
    {od1 an1 : Option Addr} {sl1 : Array (Option Value)} {oc1 kV1 dc1 pm1 cd1 ct1 : Value}
    {od2 an2 : Option Addr} {sl2 : Array (Option Value)} {oc2 kV2 dc2 pm2 cd2 ct2 : Value}
    {od3 an3 : Option Addr} {sl3 : Array (Option Value)} {oc3 kV3 dc3 pm3 cd3 ct3 : Value}
    {od4 an4 : Option Addr} {sl4 : Array (Option Value)} {oc4 kV4 dc4 pm4 cd4 ct4 : Value}
    {od5 an5 : Option Addr} {sl5 : Array (Option Value)} {oc5 kV5 dc5 pm5 cd5 ct5 : Value}
    {od6 an6 : Option Addr} {sl6 : Array (Option Value)} {oc6 kV6 dc6 pm6 cd6 ct6 : Value}
    {od7 an7 : Option Addr} {sl7 : Array (Option Value)} {oc7 kV7 dc7 pm7 cd7 ct7 : Value}
    {od8 an8 : Option Addr} {sl8 : Array (Option Value)} {oc8 kV8 dc8 pm8 cd8 ct8 : Value}
    {od9 an9 : Option Addr} {sl9 : Array (Option Value)} {oc9 kV9 dc9 pm9 cd9 ct9 : Value}
    {od10 an10 : Option Addr} {sl10 : Array (Option Value)} {oc10 kV10 dc10 pm10 cd10 ct10 : Value}
    {od11 an11 : Option Addr} {sl11 : Array (Option Value)} {oc11 kV11 dc11 pm11 cd11 ct11 : Value}
    {od12 an12 : Option Addr} {sl12 : Array (Option Value)} {oc12 kV12 dc12 pm12 cd12 ct12 : Value}
    {od13 an13 : Option Addr} {sl13 : Array (Option Value)} {oc13 kV13 dc13 pm13 cd13 ct13 : Value}
    {od14 an14 : Option Addr} {sl14 : Array (Option Value)} {oc14 kV14 dc14 pm14 cd14 ct14 : Value}
    {od15 an15 : Option Addr} {sl15 : Array (Option Value)} {oc15 kV15 dc15 pm15 cd15 ct15 : Value}
    {od16 an16 : Option Addr} {sl16 : Array (Option Value)} {oc16 kV16 dc16 pm16 cd16 ct16 : Value}
    {od17 an17 : Option Addr} {sl17 : Array (Option Value)} {oc17 kV17 dc17 pm17 cd17 ct17 : Value}
    {od18 an18 : Option Addr} {sl18 : Array (Option Value)} {oc18 kV18 dc18 pm18 cd18 ct18 : Value}
    {od19 an19 : Option Addr} {sl19 : Array (Option Value)} {oc19 kV19 dc19 pm19 cd19 ct19 : Value}
    {mod0 man0 : Option Addr} {msl0 : Array (Option Value)} {moc0 mkV0 mdc0 mpm0 mcd0 mct0 : Value}
    {mod1 man1 : Option Addr} {msl1 : Array (Option Value)} {moc1 mkV1 mdc1 mpm1 mcd1 mct1 : Value}
    {mod2 man2 : Option Addr} {msl2 : Array (Option Value)} {moc2 mkV2 mdc2 mpm2 mcd2 mct2 : Value}
    {mod3 man3 : Option Addr} {msl3 : Array (Option Value)} {moc3 mkV3 mdc3 mpm3 mcd3 mct3 : Value}
    {mod4 man4 : Option Addr} {msl4 : Array (Option Value)} {moc4 mkV4 mdc4 mpm4 mcd4 mct4 : Value}
    {mod5 man5 : Option Addr} {msl5 : Array (Option Value)} {moc5 mkV5 mdc5 mpm5 mcd5 mct5 : Value}
    {mod6 man6 : Option Addr} {msl6 : Array (Option Value)} {moc6 mkV6 mdc6 mpm6 mcd6 mct6 : Value}
    {mod7 man7 : Option Addr} {msl7 : Array (Option Value)} {moc7 mkV7 mdc7 mpm7 mcd7 mct7 : Value}
    {mod8 man8 : Option Addr} {msl8 : Array (Option Value)} {moc8 mkV8 mdc8 mpm8 mcd8 mct8 : Value}
    {mod9 man9 : Option Addr} {msl9 : Array (Option Value)} {moc9 mkV9 mdc9 mpm9 mcd9 mct9 : Value}
    {mod10 man10 : Option Addr} {msl10 : Array (Option Value)} {moc10 mkV10 mdc10 mpm10 mcd10 mct10 : Value}
    {mod11 man11 : Option Addr} {msl11 : Array (Option Value)} {moc11 mkV11 mdc11 mpm11 mcd11 mct11 : Value}
    {mod12 man12 : Option Addr} {msl12 : Array (Option Value)} {moc12 mkV12 mdc12 mpm12 mcd12 mct12 : Value}
    {mod13 man13 : Option Addr} {msl13 : Array (Option Value)} {moc13 mkV13 mdc13 mpm13 mcd13 mct13 : Value}
    {nm0 qn0 : Str} {N0 : Addr} {bs0 : List Value} {sn0 : List Str} {sub0 : List Value} {ab0 : Bool} {col0 : Option Bool} {dd0 : Option Addr} {m00 m01 m02 m03 m05 : Option Value} {iod0 ian0 : Option Addr} {isl0 : Array (Option Value)} {ioc0 idc0 ipm0 icd0 ict0 : Value} {p01 p02 q01 q02 q03 q04 : Pos}
    (gC : PySem.W.nsIn K mainGlobals "Reader" = some (some (.ref C)))
    (gN : PySem.W.nsIn K mainGlobals "InvalidNumber" = some (some (.ref CN)))
    (gL : PySem.W.nsIn K mainGlobals "MAX_LINES" = some (some (.int 16 tL)))
    (gT : PySem.W.nsIn K mainGlobals "MAX_TESTED" = some (some (.int 6 tT)))
    (d0 : PySem.W.nsIn K mainGlobals "is_name" = some (some (.ref f0)))
    (l0 : K.lookup f0 = some ⟨oc0, od0, .func (PySem.W.fnOf "is_name" "is_name" (defArgs sName) (defBody sName) (defScope sName) .none kV0 dc0 pm0 an0 cd0 ct0), sl0⟩)
    (c0 : PySem.W.codeIn K cd0 "is_name" = true)
    (k0 : PySem.W.keepIn K (.ref f0) = true)
    (d1 : PySem.W.nsIn K mainGlobals "ascending" = some (some (.ref f1)))
    (l1 : K.lookup f1 = some ⟨oc1, od1, .func (PySem.W.fnOf "ascending" "ascending" (defArgs sAsc) (defBody sAsc) (defScope sAsc) .none kV1 dc1 pm1 an1 cd1 ct1), sl1⟩)
    (c1 : PySem.W.codeIn K cd1 "ascending" = true)
    (k1 : PySem.W.keepIn K (.ref f1) = true)
    (d2 : PySem.W.nsIn K mainGlobals "is_whole_number" = some (some (.ref f2)))
    (l2 : K.lookup f2 = some ⟨oc2, od2, .func (PySem.W.fnOf "is_whole_number" "is_whole_number" (defArgs sWhole) (defBody sWhole) (defScope sWhole) .none kV2 dc2 pm2 an2 cd2 ct2), sl2⟩)
    (c2 : PySem.W.codeIn K cd2 "is_whole_number" = true)
    (k2 : PySem.W.keepIn K (.ref f2) = true)
    (d3 : PySem.W.nsIn K mainGlobals "is_number" = some (some (.ref f3)))
    (l3 : K.lookup f3 = some ⟨oc3, od3, .func (PySem.W.fnOf "is_number" "is_number" (defArgs sNumb) (defBody sNumb) (defScope sNumb) .none kV3 dc3 pm3 an3 cd3 ct3), sl3⟩)
    (c3 : PySem.W.codeIn K cd3 "is_number" = true)
    (k3 : PySem.W.keepIn K (.ref f3) = true)
    (d4 : PySem.W.nsIn K mainGlobals "is_number_within" = some (some (.ref f4)))
    (l4 : K.lookup f4 = some ⟨oc4, od4, .func (PySem.W.fnOf "is_number_within" "is_number_within" (defArgs sWithin) (defBody sWithin) (defScope sWithin) .none kV4 dc4 pm4 an4 cd4 ct4), sl4⟩)
    (c4 : PySem.W.codeIn K cd4 "is_number_within" = true)
    (k4 : PySem.W.keepIn K (.ref f4) = true)
    (d5 : PySem.W.nsIn K mainGlobals "are_names" = some (some (.ref f5)))
    (l5 : K.lookup f5 = some ⟨oc5, od5, .func (PySem.W.fnOf "are_names" "are_names" (defArgs sNames) (defBody sNames) (defScope sNames) .none kV5 dc5 pm5 an5 cd5 ct5), sl5⟩)
    (c5 : PySem.W.codeIn K cd5 "are_names" = true)
    (k5 : PySem.W.keepIn K (.ref f5) = true)
    (d6 : PySem.W.nsIn K mainGlobals "is_line" = some (some (.ref f6)))
    (l6 : K.lookup f6 = some ⟨oc6, od6, .func (PySem.W.fnOf "is_line" "is_line" (defArgs sLine) (defBody sLine) (defScope sLine) .none kV6 dc6 pm6 an6 cd6 ct6), sl6⟩)
    (c6 : PySem.W.codeIn K cd6 "is_line" = true)
    (k6 : PySem.W.keepIn K (.ref f6) = true)
    (d7 : PySem.W.nsIn K mainGlobals "pairs_of" = some (some (.ref f7)))
    (l7 : K.lookup f7 = some ⟨oc7, od7, .func (PySem.W.fnOf "pairs_of" "pairs_of" (defArgs sPairs) (defBody sPairs) (defScope sPairs) .none kV7 dc7 pm7 an7 cd7 ct7), sl7⟩)
    (c7 : PySem.W.codeIn K cd7 "pairs_of" = true)
    (k7 : PySem.W.keepIn K (.ref f7) = true)
    (d8 : PySem.W.nsIn K mainGlobals "_law_dice" = some (some (.ref f8)))
    (l8 : K.lookup f8 = some ⟨oc8, od8, .func (PySem.W.fnOf "_law_dice" "_law_dice" (defArgs sDice) (defBody sDice) (defScope sDice) .none kV8 dc8 pm8 an8 cd8 ct8), sl8⟩)
    (c8 : PySem.W.codeIn K cd8 "_law_dice" = true)
    (k8 : PySem.W.keepIn K (.ref f8) = true)
    (d9 : PySem.W.nsIn K mainGlobals "_law_roll" = some (some (.ref f9)))
    (l9 : K.lookup f9 = some ⟨oc9, od9, .func (PySem.W.fnOf "_law_roll" "_law_roll" (defArgs sRoll) (defBody sRoll) (defScope sRoll) .none kV9 dc9 pm9 an9 cd9 ct9), sl9⟩)
    (c9 : PySem.W.codeIn K cd9 "_law_roll" = true)
    (k9 : PySem.W.keepIn K (.ref f9) = true)
    (d10 : PySem.W.nsIn K mainGlobals "_law_one_of" = some (some (.ref f10)))
    (l10 : K.lookup f10 = some ⟨oc10, od10, .func (PySem.W.fnOf "_law_one_of" "_law_one_of" (defArgs sOne) (defBody sOne) (defScope sOne) .none kV10 dc10 pm10 an10 cd10 ct10), sl10⟩)
    (c10 : PySem.W.codeIn K cd10 "_law_one_of" = true)
    (k10 : PySem.W.keepIn K (.ref f10) = true)
    (d11 : PySem.W.nsIn K mainGlobals "_law_line" = some (some (.ref f11)))
    (l11 : K.lookup f11 = some ⟨oc11, od11, .func (PySem.W.fnOf "_law_line" "_law_line" (defArgs sLn) (defBody sLn) (defScope sLn) .none kV11 dc11 pm11 an11 cd11 ct11), sl11⟩)
    (c11 : PySem.W.codeIn K cd11 "_law_line" = true)
    (k11 : PySem.W.keepIn K (.ref f11) = true)
    (d12 : PySem.W.nsIn K mainGlobals "_law_lines" = some (some (.ref f12)))
    (l12 : K.lookup f12 = some ⟨oc12, od12, .func (PySem.W.fnOf "_law_lines" "_law_lines" (defArgs sLns) (defBody sLns) (defScope sLns) .none kV12 dc12 pm12 an12 cd12 ct12), sl12⟩)
    (c12 : PySem.W.codeIn K cd12 "_law_lines" = true)
    (k12 : PySem.W.keepIn K (.ref f12) = true)
    (d13 : PySem.W.nsIn K mainGlobals "_law_tested" = some (some (.ref f13)))
    (l13 : K.lookup f13 = some ⟨oc13, od13, .func (PySem.W.fnOf "_law_tested" "_law_tested" (defArgs sTd) (defBody sTd) (defScope sTd) .none kV13 dc13 pm13 an13 cd13 ct13), sl13⟩)
    (c13 : PySem.W.codeIn K cd13 "_law_tested" = true)
    (k13 : PySem.W.keepIn K (.ref f13) = true)
    (d14 : PySem.W.nsIn K mainGlobals "_law_readings" = some (some (.ref f14)))
    (l14 : K.lookup f14 = some ⟨oc14, od14, .func (PySem.W.fnOf "_law_readings" "_law_readings" (defArgs sRds) (defBody sRds) (defScope sRds) .none kV14 dc14 pm14 an14 cd14 ct14), sl14⟩)
    (c14 : PySem.W.codeIn K cd14 "_law_readings" = true)
    (k14 : PySem.W.keepIn K (.ref f14) = true)
    (d15 : PySem.W.nsIn K mainGlobals "_law_told" = some (some (.ref f15)))
    (l15 : K.lookup f15 = some ⟨oc15, od15, .func (PySem.W.fnOf "_law_told" "_law_told" (defArgs sTold) (defBody sTold) (defScope sTold) .none kV15 dc15 pm15 an15 cd15 ct15), sl15⟩)
    (c15 : PySem.W.codeIn K cd15 "_law_told" = true)
    (k15 : PySem.W.keepIn K (.ref f15) = true)
    (d16 : PySem.W.nsIn K mainGlobals "_law_near" = some (some (.ref f16)))
    (l16 : K.lookup f16 = some ⟨oc16, od16, .func (PySem.W.fnOf "_law_near" "_law_near" (defArgs sNear) (defBody sNear) (defScope sNear) .none kV16 dc16 pm16 an16 cd16 ct16), sl16⟩)
    (c16 : PySem.W.codeIn K cd16 "_law_near" = true)
    (k16 : PySem.W.keepIn K (.ref f16) = true)
    (d17 : PySem.W.nsIn K mainGlobals "_law_parts_right" = some (some (.ref f17)))
    (l17 : K.lookup f17 = some ⟨oc17, od17, .func (PySem.W.fnOf "_law_parts_right" "_law_parts_right" (defArgs sPR) (defBody sPR) (defScope sPR) .none kV17 dc17 pm17 an17 cd17 ct17), sl17⟩)
    (c17 : PySem.W.codeIn K cd17 "_law_parts_right" = true)
    (k17 : PySem.W.keepIn K (.ref f17) = true)
    (d18 : PySem.W.nsIn K mainGlobals "_law_right" = some (some (.ref f18)))
    (l18 : K.lookup f18 = some ⟨oc18, od18, .func (PySem.W.fnOf "_law_right" "_law_right" (defArgs sRi) (defBody sRi) (defScope sRi) .none kV18 dc18 pm18 an18 cd18 ct18), sl18⟩)
    (c18 : PySem.W.codeIn K cd18 "_law_right" = true)
    (k18 : PySem.W.keepIn K (.ref f18) = true)
    (d19 : PySem.W.nsIn K mainGlobals "law" = some (some (.ref f19)))
    (l19 : K.lookup f19 = some ⟨oc19, od19, .func (PySem.W.fnOf "law" "law" (defArgs sLw) (defBody sLw) (defScope sLw) .none kV19 dc19 pm19 an19 cd19 ct19), sl19⟩)
    (c19 : PySem.W.codeIn K cd19 "law" = true)
    (k19 : PySem.W.keepIn K (.ref f19) = true)
    (z0 : PySem.W.nsIn K mainGlobals "len" = some none)
    (z1 : PySem.W.nsIn K mainGlobals "int" = some none)
    (z2 : PySem.W.nsIn K mainGlobals "abs" = some none)
    (z3 : PySem.W.nsIn K mainGlobals "max" = some none)
    (z4 : PySem.W.nsIn K mainGlobals "list" = some none)
    (z5 : PySem.W.nsIn K mainGlobals "range" = some none)
    (z6 : PySem.W.nsIn K mainGlobals "all" = some none)
    (z7 : PySem.W.nsIn K mainGlobals "isinstance" = some none)
    (z8 : PySem.W.nsIn K mainGlobals "str" = some none)
    (z9 : PySem.W.nsIn K mainGlobals "bool" = some none)
    (z10 : PySem.W.nsIn K mainGlobals "tuple" = some none)
    (z11 : PySem.W.nsIn K mainGlobals "sorted" = some none)
    (z12 : PySem.W.nsIn K mainGlobals "set" = some none)
    (z13 : PySem.W.nsIn K mainGlobals "min" = some none)
    (z14 : PySem.W.nsIn K mainGlobals "enumerate" = some none)
    (z15 : PySem.W.nsIn K mainGlobals "dict" = some none)
    (z16 : PySem.W.nsIn K mainGlobals "repr" = some none)
    (ma0 : PySem.W.findIn K (.ref C) "__init__" = some (some (.ref g0)))
    (mf0 : PySem.W.isFn K (.ref g0) = true)
    (ml0 : K.lookup g0 = some ⟨moc0, mod0, .func (PySem.W.fnOf "__init__" "Reader.__init__" (defArgs sInit) (defBody sInit) (defScope sInit) .none mkV0 mdc0 mpm0 man0 mcd0 mct0), msl0⟩)
    (mc0 : PySem.W.codeIn K mcd0 "Reader.__init__" = true)
    (mk0 : PySem.W.keepIn K (.ref g0) = true)
    (ma1 : PySem.W.findCls K (.ref C) (.type "type") "of" = some (.get (.builtin "classmethod.__get__") (.ref p1) .none (.ref C)))
    (mr1 : PySem.W.recIn K p1 "classmethod" = some (.ref g1 :: rest1))
    (mi1 : PySem.W.fnIn K g1 = true)
    (ml1 : K.lookup g1 = some ⟨moc1, mod1, .func (PySem.W.fnOf "of" "Reader.of" (defArgs sOf) (defBody sOf) (defScope sOf) .none mkV1 mdc1 mpm1 man1 mcd1 mct1), msl1⟩)
    (mc1 : PySem.W.codeIn K mcd1 "Reader.of" = true)
    (mk1 : PySem.W.keepIn K (.ref g1) = true)
    (ma2 : PySem.W.findCls K (.ref C) (.type "type") "reading" = some (.get (.builtin "classmethod.__get__") (.ref p2) .none (.ref C)))
    (mr2 : PySem.W.recIn K p2 "classmethod" = some (.ref g2 :: rest2))
    (mi2 : PySem.W.fnIn K g2 = true)
    (ml2 : K.lookup g2 = some ⟨moc2, mod2, .func (PySem.W.fnOf "reading" "Reader.reading" (defArgs sReading) (defBody sReading) (defScope sReading) .none mkV2 mdc2 mpm2 man2 mcd2 mct2), msl2⟩)
    (mc2 : PySem.W.codeIn K mcd2 "Reader.reading" = true)
    (mk2 : PySem.W.keepIn K (.ref g2) = true)
    (ma3 : PySem.W.findIn K (.ref C) "lines" = some (some (.ref p3)))
    (mg3 : PySem.W.specialIn K (.ref p3) "__get__" = some (some (.builtin "property.__get__")))
    (mt3 : PySem.W.takesIn K (.ref p3) = some true)
    (mr3 : PySem.W.recIn K p3 "property" = some (.ref g3 :: rest3))
    (ml3 : K.lookup g3 = some ⟨moc3, mod3, .func (PySem.W.fnOf "lines" "Reader.lines" (defArgs sLines) (defBody sLines) (defScope sLines) .none mkV3 mdc3 mpm3 man3 mcd3 mct3), msl3⟩)
    (mc3 : PySem.W.codeIn K mcd3 "Reader.lines" = true)
    (mk3 : PySem.W.keepIn K (.ref g3) = true)
    (ma4 : PySem.W.findIn K (.ref C) "tested" = some (some (.ref p4)))
    (mg4 : PySem.W.specialIn K (.ref p4) "__get__" = some (some (.builtin "property.__get__")))
    (mt4 : PySem.W.takesIn K (.ref p4) = some true)
    (mr4 : PySem.W.recIn K p4 "property" = some (.ref g4 :: rest4))
    (ml4 : K.lookup g4 = some ⟨moc4, mod4, .func (PySem.W.fnOf "tested" "Reader.tested" (defArgs sTested) (defBody sTested) (defScope sTested) .none mkV4 mdc4 mpm4 man4 mcd4 mct4), msl4⟩)
    (mc4 : PySem.W.codeIn K mcd4 "Reader.tested" = true)
    (mk4 : PySem.W.keepIn K (.ref g4) = true)
    (ma5 : PySem.W.findIn K (.ref C) "pairs" = some (some (.ref p5)))
    (mg5 : PySem.W.specialIn K (.ref p5) "__get__" = some (some (.builtin "property.__get__")))
    (mt5 : PySem.W.takesIn K (.ref p5) = some true)
    (mr5 : PySem.W.recIn K p5 "property" = some (.ref g5 :: rest5))
    (ml5 : K.lookup g5 = some ⟨moc5, mod5, .func (PySem.W.fnOf "pairs" "Reader.pairs" (defArgs sPrs) (defBody sPrs) (defScope sPrs) .none mkV5 mdc5 mpm5 man5 mcd5 mct5), msl5⟩)
    (mc5 : PySem.W.codeIn K mcd5 "Reader.pairs" = true)
    (mk5 : PySem.W.keepIn K (.ref g5) = true)
    (ma6 : PySem.W.findIn K (.ref C) "is_plain" = some (some (.ref p6)))
    (mg6 : PySem.W.specialIn K (.ref p6) "__get__" = some (some (.builtin "property.__get__")))
    (mt6 : PySem.W.takesIn K (.ref p6) = some true)
    (mr6 : PySem.W.recIn K p6 "property" = some (.ref g6 :: rest6))
    (ml6 : K.lookup g6 = some ⟨moc6, mod6, .func (PySem.W.fnOf "is_plain" "Reader.is_plain" (defArgs sPlain) (defBody sPlain) (defScope sPlain) .none mkV6 mdc6 mpm6 man6 mcd6 mct6), msl6⟩)
    (mc6 : PySem.W.codeIn K mcd6 "Reader.is_plain" = true)
    (mk6 : PySem.W.keepIn K (.ref g6) = true)
    (ma7 : PySem.W.findIn K (.ref C) "readings" = some (some (.ref p7)))
    (mg7 : PySem.W.specialIn K (.ref p7) "__get__" = some (some (.builtin "property.__get__")))
    (mt7 : PySem.W.takesIn K (.ref p7) = some true)
    (mr7 : PySem.W.recIn K p7 "property" = some (.ref g7 :: rest7))
    (ml7 : K.lookup g7 = some ⟨moc7, mod7, .func (PySem.W.fnOf "readings" "Reader.readings" (defArgs sReadings) (defBody sReadings) (defScope sReadings) .none mkV7 mdc7 mpm7 man7 mcd7 mct7), msl7⟩)
    (mc7 : PySem.W.codeIn K mcd7 "Reader.readings" = true)
    (mk7 : PySem.W.keepIn K (.ref g7) = true)
    (ma8 : PySem.W.findIn K (.ref C) "__getitem__" = some (some (.ref g8)))
    (mf8 : PySem.W.isFn K (.ref g8) = true)
    (mi8 : PySem.W.fnIn K g8 = true)
    (ml8 : K.lookup g8 = some ⟨moc8, mod8, .func (PySem.W.fnOf "__getitem__" "Reader.__getitem__" (defArgs sGet) (defBody sGet) (defScope sGet) .none mkV8 mdc8 mpm8 man8 mcd8 mct8), msl8⟩)
    (mc8 : PySem.W.codeIn K mcd8 "Reader.__getitem__" = true)
    (mk8 : PySem.W.keepIn K (.ref g8) = true)
    (ma9 : PySem.W.findIn K (.ref C) "__contains__" = some (some (.ref g9)))
    (mf9 : PySem.W.isFn K (.ref g9) = true)
    (ml9 : K.lookup g9 = some ⟨moc9, mod9, .func (PySem.W.fnOf "__contains__" "Reader.__contains__" (defArgs sHas) (defBody sHas) (defScope sHas) .none mkV9 mdc9 mpm9 man9 mcd9 mct9), msl9⟩)
    (mc9 : PySem.W.codeIn K mcd9 "Reader.__contains__" = true)
    (mk9 : PySem.W.keepIn K (.ref g9) = true)
    (ma10 : PySem.W.findIn K (.ref C) "__len__" = some (some (.ref g10)))
    (mf10 : PySem.W.isFn K (.ref g10) = true)
    (ml10 : K.lookup g10 = some ⟨moc10, mod10, .func (PySem.W.fnOf "__len__" "Reader.__len__" (defArgs sLen) (defBody sLen) (defScope sLen) .none mkV10 mdc10 mpm10 man10 mcd10 mct10), msl10⟩)
    (mc10 : PySem.W.codeIn K mcd10 "Reader.__len__" = true)
    (mk10 : PySem.W.keepIn K (.ref g10) = true)
    (ma11 : PySem.W.findIn K (.ref C) "__eq__" = some (some (.ref g11)))
    (mf11 : PySem.W.isFn K (.ref g11) = true)
    (ml11 : K.lookup g11 = some ⟨moc11, mod11, .func (PySem.W.fnOf "__eq__" "Reader.__eq__" (defArgs sEq) (defBody sEq) (defScope sEq) .none mkV11 mdc11 mpm11 man11 mcd11 mct11), msl11⟩)
    (mc11 : PySem.W.codeIn K mcd11 "Reader.__eq__" = true)
    (mk11 : PySem.W.keepIn K (.ref g11) = true)
    (ma12 : PySem.W.findIn K (.ref C) "__str__" = some (some (.ref g12)))
    (mf12 : PySem.W.isFn K (.ref g12) = true)
    (ml12 : K.lookup g12 = some ⟨moc12, mod12, .func (PySem.W.fnOf "__str__" "Reader.__str__" (defArgs sStr) (defBody sStr) (defScope sStr) .none mkV12 mdc12 mpm12 man12 mcd12 mct12), msl12⟩)
    (mc12 : PySem.W.codeIn K mcd12 "Reader.__str__" = true)
    (mk12 : PySem.W.keepIn K (.ref g12) = true)
    (ma13 : PySem.W.findIn K (.ref C) "_need_line" = some (some (.ref g13)))
    (mf13 : PySem.W.isFn K (.ref g13) = true)
    (ml13 : K.lookup g13 = some ⟨moc13, mod13, .func (PySem.W.fnOf "_need_line" "Reader._need_line" (defArgs sNeed) (defBody sNeed) (defScope sNeed) .none mkV13 mdc13 mpm13 man13 mcd13 mct13), msl13⟩)
    (mc13 : PySem.W.codeIn K mcd13 "Reader._need_line" = true)
    (mk13 : PySem.W.keepIn K (.ref g13) = true)
    (cpg : PySem.W.plainGet K C Str.empty = true)
    (chd : PySem.W.hasDictIn K C = true)
    (cpo : PySem.W.plainOver K C = true)
    (csa : PySem.W.findIn K (.ref C) "__setattr__" = some (some (.builtin "object.__setattr__")))
    (cnL : PySem.W.findIn K (.ref C) "_lines" = some none)
    (cnT : PySem.W.findIn K (.ref C) "_tested" = some none)
    (cmk : PySem.W.makesIn K C = true)
    (ckp : PySem.W.keepIn K (.ref C) = true)
    (crd : PySem.W.readsIn K C (.type "type") = true)
    (cga : PySem.W.specialIn K (.ref C) "__getattribute__" = some (some (.builtin "type.__getattribute__")))
    (cne : PySem.W.findIn K (.ref C) "__ne__" = some (some (.builtin "object.__ne__")))
    (cso : PySem.W.subIn K (.ref C) (.type "object") = some true)
    (cha : PySem.W.findIn K (.ref C) "__class__" = some (some (.builtin "object.__class__")))
    (chn : PySem.W.specialIn K (.builtin "object.__class__") "__get__" = some (some (.builtin "getset_descriptor.__get__")))
    (cht : PySem.W.takesIn K (.builtin "object.__class__") = some true)
    (chm : PySem.W.mroIn K C (.type "object") = some true)
    (cse : (PySem.W.kitOne K (.ref C) (.ref C) == some true) = true)
    (bno : noB K C = true)
    (bnf : nfB K C = true)
    (x0 : K.lookup CN = some (excClassObj nm0 qn0 CN N0 bs0 PySem.Mk0.bIx true sn0 sub0 ab0 col0 dd0 m00 m01 m02 m03 m05 "IndexError.__new__"))
    (ega : PySem.W.findIn K (.ref CN) "__getattribute__" = some (some (.builtin "BaseException.__getattribute__")))
    (egg : PySem.W.findIn K (.ref CN) "__getattr__" = some none)
    (exC : PySem.W.subIn K (.ref CN) (.type "BaseException") = some true)
    (ehd : PySem.W.hasDictIn K CN = true)
    (ekp : PySem.W.keepIn K (.ref CN) = true)
    (ety : PySem.W.typeIn K (.ref CN) = some (.type "type"))
    (s0 : PySem.W.findIn K (.ref CN) "__setattr__" = some (some (.builtin "object.__setattr__")))
    (n0 : PySem.W.findIn K (.ref CN) "value" = some none)
    (i0 : PySem.W.findIn K (.ref CN) "__init__" = some (some (.ref J)))
    (t0 : PySem.W.typeIn K (.ref J) = some (.type "function"))
    (y0 : K.lookup J = some ⟨ioc0, iod0, .func (PySem.W.fnOf "__init__" "InvalidNumber.__init__" (PySem.Mk0.oA "value" p01 p02) (PySem.Mk0.oB "value" q01 q02 q03 q04) (PySem.Mk0.oS "value") .none .none idc0 ipm0 ian0 icd0 ict0), isl0⟩)
    (v0 : PySem.W.codeIn K icd0 "InvalidNumber.__init__" = true)
    (em : (PySem.W.exmOne K (.ref CN) (.ref CN) == some true) = true)
    : ∃ fd : FuncData, (∀ (s : Shared) (u : Value), BindsTo s fd ⟨[u], []⟩ [("_law_script", u)]) ∧ ∀ base : Heap, K.In base → base.Ns mainGlobals mg → (∃ o, base.get? sysModules = some o) → FnG P w K mg base 9 fa fd ["_law_script"] (spLw K) := by
  have e := hfa.symm.trans (PySem.W.mg_of X G d19)
  cases e
  have o0 : PySem.Mk0.OTxt K CN J "value" "InvalidNumber.__init__" "IndexError" "IndexError.__new__" PySem.Mk0.bIx :=
    { fn := by decide, F := ⟨_, _, PySem.F.excBase_IndexError⟩, Z := PySem.Mk0.z_ix, cls := ⟨_, _, _, _, _, _, _, _, _, _, _, _, _, _, x0⟩, sa := s0, ga := ega, gg := egg, noN := n0, iC := i0, tC := t0, kC := ekp, exC := exC, tyC := ety, hdC := ehd, def_ := ⟨_, _, _, _, _, _, _, _, _, _, _, _, _, _, y0, v0⟩ }
  have F0 := fun_mk (st := sName) l0 c0 k0
  have b0 := F0.binds (ps := ["value"]) fun _ _ _ _ _ _ us hl => match us, hl with | [_], _ => rfl
  have M0 := PySem.W.mg_of X G d0
  have F1 := fun_mk (st := sAsc) l1 c1 k1
  have b1 := F1.binds (ps := ["values"]) fun _ _ _ _ _ _ us hl => match us, hl with | [_], _ => rfl
  have M1 := PySem.W.mg_of X G d1
  have F2 := fun_mk (st := sWhole) l2 c2 k2
  have b2 := F2.binds (ps := ["value"]) fun _ _ _ _ _ _ us hl => match us, hl with | [_], _ => rfl
  have M2 := PySem.W.mg_of X G d2
  have F3 := fun_mk (st := sNumb) l3 c3 k3
  have b3 := F3.binds (ps := ["value"]) fun _ _ _ _ _ _ us hl => match us, hl with | [_], _ => rfl
  have M3 := PySem.W.mg_of X G d3
  have F4 := fun_mk (st := sWithin) l4 c4 k4
  have b4 := F4.binds (ps := ["value", "most"]) fun _ _ _ _ _ _ us hl => match us, hl with | [_, _], _ => rfl
  have M4 := PySem.W.mg_of X G d4
  have F5 := fun_mk (st := sNames) l5 c5 k5
  have b5 := F5.binds (ps := ["values"]) fun _ _ _ _ _ _ us hl => match us, hl with | [_], _ => rfl
  have M5 := PySem.W.mg_of X G d5
  have F6 := fun_mk (st := sLine) l6 c6 k6
  have b6 := F6.binds (ps := ["value", "many"]) fun _ _ _ _ _ _ us hl => match us, hl with | [_, _], _ => rfl
  have M6 := PySem.W.mg_of X G d6
  have F7 := fun_mk (st := sPairs) l7 c7 k7
  have b7 := F7.binds (ps := ["lines", "words"]) fun _ _ _ _ _ _ us hl => match us, hl with | [_, _], _ => rfl
  have M7 := PySem.W.mg_of X G d7
  have F8 := fun_mk (st := sDice) l8 c8 k8
  have b8 := F8.binds (ps := ["_law_script", "_law_at"]) fun _ _ _ _ _ _ us hl => match us, hl with | [_, _], _ => rfl
  have M8 := PySem.W.mg_of X G d8
  have F9 := fun_mk (st := sRoll) l9 c9 k9
  have b9 := F9.binds (ps := ["_law_dice_here", "_law_total"]) fun _ _ _ _ _ _ us hl => match us, hl with | [_, _], _ => rfl
  have M9 := PySem.W.mg_of X G d9
  have F10 := fun_mk (st := sOne) l10 c10 k10
  have b10 := F10.binds (ps := ["_law_dice_here", "_law_items"]) fun _ _ _ _ _ _ us hl => match us, hl with | [_, _], _ => rfl
  have M10 := PySem.W.mg_of X G d10
  have F11 := fun_mk (st := sLn) l11 c11 k11
  have b11 := F11.binds (ps := ["_law_dice_here", "_law_size"]) fun _ _ _ _ _ _ us hl => match us, hl with | [_, _], _ => rfl
  have M11 := PySem.W.mg_of X G d11
  have F12 := fun_mk (st := sLns) l12 c12 k12
  have b12 := F12.binds (ps := ["_law_dice_here", "_law_most"]) fun _ _ _ _ _ _ us hl => match us, hl with | [_, _], _ => rfl
  have M12 := PySem.W.mg_of X G d12
  have F13 := fun_mk (st := sTd) l13 c13 k13
  have b13 := F13.binds (ps := ["_law_lines_here"]) fun _ _ _ _ _ _ us hl => match us, hl with | [_], _ => rfl
  have M13 := PySem.W.mg_of X G d13
  have F14 := fun_mk (st := sRds) l14 c14 k14
  have b14 := F14.binds (ps := ["_law_lines_here"]) fun _ _ _ _ _ _ us hl => match us, hl with | [_], _ => rfl
  have M14 := PySem.W.mg_of X G d14
  have F15 := fun_mk (st := sTold) l15 c15 k15
  have b15 := F15.binds (ps := ["_law_reader", "_law_at"]) fun _ _ _ _ _ _ us hl => match us, hl with | [_, _], _ => rfl
  have M15 := PySem.W.mg_of X G d15
  have F16 := fun_mk (st := sNear) l16 c16 k16
  have b16 := F16.binds (ps := ["_law_dice_here", "_law_lines_here"]) fun _ _ _ _ _ _ us hl => match us, hl with | [_, _], _ => rfl
  have M16 := PySem.W.mg_of X G d16
  have F17 := fun_mk (st := sPR) l17 c17 k17
  have b17 := F17.binds (ps := ["_law_reader", "_law_lines_here"]) fun _ _ _ _ _ _ us hl => match us, hl with | [_, _], _ => rfl
  have M17 := PySem.W.mg_of X G d17
  have F18 := fun_mk (st := sRi) l18 c18 k18
  have b18 := F18.binds (ps := ["_law_dice_here"]) fun _ _ _ _ _ _ us hl => match us, hl with | [_], _ => rfl
  have M18 := PySem.W.mg_of X G d18
  have F19 := fun_mk (st := sLw) l19 c19 k19
  have E0 := fun_mk (st := sInit) ml0 mc0 mk0
  have E1 := fun_mk (st := sOf) ml1 mc1 mk1
  have e1 := E1.binds (ps := ["cls", "lines"]) fun _ _ _ _ _ _ us hl => match us, hl with | [_, _], _ => rfl
  have E2 := fun_mk (st := sReading) ml2 mc2 mk2
  have E3 := fun_mk (st := sLines) ml3 mc3 mk3
  have e3 := E3.binds (ps := ["self"]) fun _ _ _ _ _ _ us hl => match us, hl with | [_], _ => rfl
  have E4 := fun_mk (st := sTested) ml4 mc4 mk4
  have e4 := E4.binds (ps := ["self"]) fun _ _ _ _ _ _ us hl => match us, hl with | [_], _ => rfl
  have E5 := fun_mk (st := sPrs) ml5 mc5 mk5
  have e5 := E5.binds (ps := ["self"]) fun _ _ _ _ _ _ us hl => match us, hl with | [_], _ => rfl
  have E6 := fun_mk (st := sPlain) ml6 mc6 mk6
  have e6 := E6.binds (ps := ["self"]) fun _ _ _ _ _ _ us hl => match us, hl with | [_], _ => rfl
  have E7 := fun_mk (st := sReadings) ml7 mc7 mk7
  have e7 := E7.binds (ps := ["self"]) fun _ _ _ _ _ _ us hl => match us, hl with | [_], _ => rfl
  have E8 := fun_mk (st := sGet) ml8 mc8 mk8
  have e8 := E8.binds (ps := ["self", "at"]) fun _ _ _ _ _ _ us hl => match us, hl with | [_, _], _ => rfl
  have E9 := fun_mk (st := sHas) ml9 mc9 mk9
  have e9 := E9.binds (ps := ["self", "x"]) fun _ _ _ _ _ _ us hl => match us, hl with | [_, _], _ => rfl
  have E10 := fun_mk (st := sLen) ml10 mc10 mk10
  have e10 := E10.binds (ps := ["self"]) fun _ _ _ _ _ _ us hl => match us, hl with | [_], _ => rfl
  have E11 := fun_mk (st := sEq) ml11 mc11 mk11
  have e11 := E11.binds (ps := ["self", "other"]) fun _ _ _ _ _ _ us hl => match us, hl with | [_, _], _ => rfl
  have E12 := fun_mk (st := sStr) ml12 mc12 mk12
  have e12 := E12.binds (ps := ["self"]) fun _ _ _ _ _ _ us hl => match us, hl with | [_], _ => rfl
  have E13 := fun_mk (st := sNeed) ml13 mc13 mk13
  have e13 := E13.binds (ps := ["self", "at"]) fun _ _ _ _ _ _ us hl => match us, hl with | [_, _], _ => rfl
  refine ⟨PySem.W.fnOf "law" "law" (defArgs sLw) (defBody sLw) (defScope sLw) .none kV19 dc19 pm19 an19 cd19 ct19, fun s u => .of_eq rfl, fun base hKb _ hsys => ?_⟩
  have TB : TxB K mg := ⟨PySem.W.mg_none_of X G z0, PySem.W.mg_none_of X G z1, PySem.W.mg_none_of X G z2, PySem.W.mg_none_of X G z3, PySem.W.mg_none_of X G z4, PySem.W.mg_none_of X G z5⟩
  have TM : TxM K mg := { TB with all := PySem.W.mg_none_of X G z6, isi := PySem.W.mg_none_of X G z7, str := PySem.W.mg_none_of X G z8, bool := PySem.W.mg_none_of X G z9, tuple := PySem.W.mg_none_of X G z10, sorted := PySem.W.mg_none_of X G z11, set := PySem.W.mg_none_of X G z12, min := PySem.W.mg_none_of X G z13, enum := PySem.W.mg_none_of X G z14, dict := PySem.W.mg_none_of X G z15, repr := PySem.W.mg_none_of X G z16 }
  have R0 := ok_name (P := P) (w := w) (base := base) F0 TM
  have R2 := ok_whole (P := P) (w := w) (base := base) F2 TM
  have R3 := ok_numb (P := P) (w := w) (base := base) F3 ⟨_, _, M2, k2, b2, R2⟩
  have R4 := ok_within (P := P) (w := w) (base := base) F4 ⟨_, _, M3, k3, b3, R3⟩
  have TN : TxN K mg P w base := { TM with whole := ⟨_, _, M2, k2, b2, R2⟩, numb := ⟨_, _, M3, k3, b3, R3⟩, within_ := ⟨_, _, M4, k4, b4, R4⟩, name := ⟨_, _, M0, k0, b0, R0⟩ }
  have R5 := ok_names (P := P) (w := w) (base := base) F5 TN
  have TL : TxL K mg P w base := { TN with names := ⟨_, _, M5, k5, b5, R5⟩ }
  have R6 := ok_line (P := P) (w := w) (base := base) F6 TL
  have RX := ok_ascX (P := P) (w := w) (base := base) F1 TM
  have RS := ok_ascS (P := P) (w := w) (base := base) F1 TM
  have TP : TxP K mg P w base := { TL with line := ⟨_, _, M6, k6, b6, R6⟩, ascX := ⟨_, _, M1, k1, b1, RX⟩, ascS := ⟨_, _, M1, k1, b1, RS⟩ }
  have R7 := ok_pairs (P := P) (w := w) (base := base) F7 TP
  have TR : TxR0 K mg P w base C := { TP with cl := ⟨cpg, chd, cpo, csa⟩, nL := cnL, nT := cnT, mgC := PySem.W.mg_of X G gC, mxL := ⟨_, PySem.W.mg_of X G gL⟩, mxT := ⟨_, PySem.W.mg_of X G gT⟩, pairs := ⟨_, _, M7, k7, b7, R7⟩ }
  have Q0 := ok_init E0 TR
  have TR1 : TxR1 K mg P w base C := { TR with made_ := ⟨_, ⟨cmk, ma0, mf0, ckp⟩, Q0⟩ }
  have Q1 := ok_of E1 TR1
  have CR : ClX.CRead K C (.type "type") := ⟨crd, cga⟩
  have TR2 : TxR2 K mg P w base C := { TR1 with of_ := ⟨_, _, _, CR, ⟨ma1, ⟨_, mr1⟩, mi1⟩, plainR Q1 e1⟩ }
  have Q2 := ok_reading E2 TR2
  have I : TxI K C := ⟨cha, chn, cht, chm, beq_iff_eq.mp cse, fun t ht => beq_iff_eq.mp (List.all_eq_true.mp bno t ht)⟩
  have Q3 := ok_lines E3 TR
  have Q4 := ok_tested E4 TR
  have Q5 := ok_prs E5 TR
  have Q6 := ok_plain E6 TR
  have Q7 := ok_readings E7 TR
  have Q9 := ok_has E9 TR
  have Q10 := ok_len E10 TR
  have Q12 := ok_str E12 TR
  have Q11 := ok_eq E11 TR I
  have TG : TxG K mg P w base C CN := { TR with gN := PySem.W.mg_of X G gN, oN := ⟨_, o0⟩ }
  have Q13 := ok_need E13 TG
  have TG2 : TxG2 K mg P w base C CN := { TG with need := ⟨_, _, ⟨ma13, mf13, mk13⟩, e13, Q13⟩ }
  have Q8 := ok_get E8 TG2
  have TT : TxT K mg P w base C CN := { TG with get := ⟨_, ⟨ma8, mf8⟩, mi8, plainRC Q8 e8⟩, em := beq_iff_eq.mp em, sysm := hsys }
  have R8 := ok_dice (P := P) (w := w) (base := base) F8 TB
  have R9 := ok_roll (P := P) (w := w) (base := base) F9 TB
  have TD : TxD K mg P w base := { TB with roll := ⟨_, _, M9, k9, b9, R9⟩ }
  have R10 := ok_one  F10 TD
  have T2 : TxE2 K mg P w base := { TM with roll := ⟨_, _, M9, k9, b9, R9⟩, one := ⟨_, _, M10, k10, b10, R10⟩ }
  have R11 := ok_ln  F11 T2
  have T3 : TxE3 K mg P w base := { T2 with ln := ⟨_, _, M11, k11, b11, R11⟩ }
  have R12 := ok_lns  F12 T3
  have R13 := ok_td (P := P) (w := w) (base := base) F13 TM
  have R14 := ok_rds (P := P) (w := w) (base := base) F14 TM
  have R15 := ok_told  F15 TT
  have R16 := ok_near  F16 T2
  have TW : TxW K mg P w base C CN := { TT with lines_ := ⟨_, _, _, ⟨ma3, mg3, mt3, ⟨_, mr3⟩⟩, e3, Q3⟩, tested_ := ⟨_, _, _, ⟨ma4, mg4, mt4, ⟨_, mr4⟩⟩, e4, Q4⟩, prs_ := ⟨_, _, _, ⟨ma5, mg5, mt5, ⟨_, mr5⟩⟩, e5, Q5⟩, plain_ := ⟨_, _, _, ⟨ma6, mg6, mt6, ⟨_, mr6⟩⟩, e6, Q6⟩, reads_ := ⟨_, _, _, ⟨ma7, mg7, mt7, ⟨_, mr7⟩⟩, e7, Q7⟩, len_ := ⟨_, ⟨ma10, mf10⟩, plainR Q10 e10⟩, str_ := ⟨_, ⟨ma12, mf12⟩, plainR Q12 e12⟩, td := ⟨_, _, M13, k13, b13, R13⟩, rds := ⟨_, _, M14, k14, b14, R14⟩ }
  have R17 := ok_pr  F17 TW
  have TV : TxV K mg P w base C CN := { TW with of_ := ⟨_, _, _, CR, ⟨ma1, ⟨_, mr1⟩, mi1⟩, plainR Q1 e1⟩, eq_ := ⟨_, ⟨ma11, mf11⟩, plainR Q11 e11⟩, has_ := ⟨_, ⟨ma9, mf9⟩, plainR Q9 e9⟩, ne0 := cne, sub0 := cso, nf := fun t ht => List.all_eq_true.mp bnf t ht, ii := I, lns := ⟨_, _, M12, k12, b12, R12⟩, told := ⟨_, _, M15, k15, b15, R15⟩, near := ⟨_, _, M16, k16, b16, R16⟩, parts := ⟨_, _, M17, k17, b17, R17⟩ }
  have R18 := ok_ri  F18 TV
  have TZ : TxZ K mg P w base C CN := { TV with dice := ⟨_, _, M8, k8, b8, R8⟩, right := ⟨_, _, M18, k18, b18, R18⟩, reading_ := ⟨_, _, _, CR, ⟨ma2, ⟨_, mr2⟩, mi2⟩, Q2⟩, made_ := ⟨_, ⟨cmk, ma0, mf0, ckp⟩, Q0⟩ }
  exact ok_lw F19 TZ
end Rd

open PySem PySem.W PyProof.Rows
set_option maxRecDepth 100000 in
set_option maxHeartbeats 0 in
theorem PySem.Challenge.cw_asunmoved_k16_readers_as_values_holds : PySem.Challenge.rw_asunmoved_k16_readers_as_values.Holds := by
  w_on; o_law; k_head; (case hw => w_witness2)
  k_fill
  refine Ox.walkG (l := PySem.Challenge.rw_asunmoved_k16_readers_as_values) (n := 63) (k := 9) (x := "_law_script") (sp := Rd.spLw) rfl (by decide) rfl ⟨rfl, by decide, by decide⟩ (by decide +kernel) (fun w h Y => PySem.W.kIn_of Y) ?F (fun K H a ns hl hS => ⟨a, ns, rfl, hS, fun _ => rfl⟩)
  case F =>
    intro w mg fa h KX G hmg
    refine' Rd.all_mk KX G hmg ?kz_gC ?kz_gN ?kz_gL ?kz_gT ?kz_d0 ?kz_l0 ?kz_c0 ?kz_k0 ?kz_d1 ?kz_l1 ?kz_c1 ?kz_k1 ?kz_d2 ?kz_l2 ?kz_c2 ?kz_k2 ?kz_d3 ?kz_l3 ?kz_c3 ?kz_k3 ?kz_d4 ?kz_l4 ?kz_c4 ?kz_k4 ?kz_d5 ?kz_l5 ?kz_c5 ?kz_k5 ?kz_d6 ?kz_l6 ?kz_c6 ?kz_k6 ?kz_d7 ?kz_l7 ?kz_c7 ?kz_k7 ?kz_d8 ?kz_l8 ?kz_c8 ?kz_k8 ?kz_d9 ?kz_l9 ?kz_c9 ?kz_k9 ?kz_d10 ?kz_l10 ?kz_c10 ?kz_k10 ?kz_d11 ?kz_l11 ?kz_c11 ?kz_k11 ?kz_d12 ?kz_l12 ?kz_c12 ?kz_k12 ?kz_d13 ?kz_l13 ?kz_c13 ?kz_k13 ?kz_d14 ?kz_l14 ?kz_c14 ?kz_k14 ?kz_d15 ?kz_l15 ?kz_c15 ?kz_k15 ?kz_d16 ?kz_l16 ?kz_c16 ?kz_k16 ?kz_d17 ?kz_l17 ?kz_c17 ?kz_k17 ?kz_d18 ?kz_l18 ?kz_c18 ?kz_k18 ?kz_d19 ?kz_l19 ?kz_c19 ?kz_k19 ?kz_z0 ?kz_z1 ?kz_z2 ?kz_z3 ?kz_z4 ?kz_z5 ?kz_z6 ?kz_z7 ?kz_z8 ?kz_z9 ?kz_z10 ?kz_z11 ?kz_z12 ?kz_z13 ?kz_z14 ?kz_z15 ?kz_z16 ?kz_ma0 ?kz_mf0 ?kz_ml0 ?kz_mc0 ?kz_mk0 ?kz_ma1 ?kz_mr1 ?kz_mi1 ?kz_ml1 ?kz_mc1 ?kz_mk1 ?kz_ma2 ?kz_mr2 ?kz_mi2 ?kz_ml2 ?kz_mc2 ?kz_mk2 ?kz_ma3 ?kz_mg3 ?kz_mt3 ?kz_mr3 ?kz_ml3 ?kz_mc3 ?kz_mk3 ?kz_ma4 ?kz_mg4 ?kz_mt4 ?kz_mr4 ?kz_ml4 ?kz_mc4 ?kz_mk4 ?kz_ma5 ?kz_mg5 ?kz_mt5 ?kz_mr5 ?kz_ml5 ?kz_mc5 ?kz_mk5 ?kz_ma6 ?kz_mg6 ?kz_mt6 ?kz_mr6 ?kz_ml6 ?kz_mc6 ?kz_mk6 ?kz_ma7 ?kz_mg7 ?kz_mt7 ?kz_mr7 ?kz_ml7 ?kz_mc7 ?kz_mk7 ?kz_ma8 ?kz_mf8 ?kz_mi8 ?kz_ml8 ?kz_mc8 ?kz_mk8 ?kz_ma9 ?kz_mf9 ?kz_ml9 ?kz_mc9 ?kz_mk9 ?kz_ma10 ?kz_mf10 ?kz_ml10 ?kz_mc10 ?kz_mk10 ?kz_ma11 ?kz_mf11 ?kz_ml11 ?kz_mc11 ?kz_mk11 ?kz_ma12 ?kz_mf12 ?kz_ml12 ?kz_mc12 ?kz_mk12 ?kz_ma13 ?kz_mf13 ?kz_ml13 ?kz_mc13 ?kz_mk13 ?kz_cpg ?kz_chd ?kz_cpo ?kz_csa ?kz_cnL ?kz_cnT ?kz_cmk ?kz_ckp ?kz_crd ?kz_cga ?kz_cne ?kz_cso ?kz_cha ?kz_chn ?kz_cht ?kz_chm ?kz_cse ?kz_bno ?kz_bnf ?kz_x0 ?kz_ega ?kz_egg ?kz_exC ?kz_ehd ?kz_ekp ?kz_ety ?kz_s0 ?kz_n0 ?kz_i0 ?kz_t0 ?kz_y0 ?kz_v0 ?kz_em
    (case kz_gC => k_is); (case kz_gN => k_is); (case kz_gL => k_is); (case kz_gT => k_is); (case kz_d0 => k_is); (case kz_l0 => k_is)
    (case kz_c0 => k_is); (case kz_k0 => k_is); (case kz_d1 => k_is); (case kz_l1 => k_is); (case kz_c1 => k_is); (case kz_k1 => k_is)
    (case kz_d2 => k_is); (case kz_l2 => k_is); (case kz_c2 => k_is); (case kz_k2 => k_is); (case kz_d3 => k_is); (case kz_l3 => k_is)
    (case kz_c3 => k_is); (case kz_k3 => k_is); (case kz_d4 => k_is); (case kz_l4 => k_is); (case kz_c4 => k_is); (case kz_k4 => k_is)
    (case kz_d5 => k_is); (case kz_l5 => k_is); (case kz_c5 => k_is); (case kz_k5 => k_is); (case kz_d6 => k_is); (case kz_l6 => k_is)
    (case kz_c6 => k_is); (case kz_k6 => k_is); (case kz_d7 => k_is); (case kz_l7 => k_is); (case kz_c7 => k_is); (case kz_k7 => k_is)
    (case kz_d8 => k_is); (case kz_l8 => k_is); (case kz_c8 => k_is); (case kz_k8 => k_is); (case kz_d9 => k_is); (case kz_l9 => k_is)
    (case kz_c9 => k_is); (case kz_k9 => k_is); (case kz_d10 => k_is); (case kz_l10 => k_is); (case kz_c10 => k_is); (case kz_k10 => k_is)
    (case kz_d11 => k_is); (case kz_l11 => k_is); (case kz_c11 => k_is); (case kz_k11 => k_is); (case kz_d12 => k_is); (case kz_l12 => k_is)
    (case kz_c12 => k_is); (case kz_k12 => k_is); (case kz_d13 => k_is); (case kz_l13 => k_is); (case kz_c13 => k_is); (case kz_k13 => k_is)
    (case kz_d14 => k_is); (case kz_l14 => k_is); (case kz_c14 => k_is); (case kz_k14 => k_is); (case kz_d15 => k_is); (case kz_l15 => k_is)
    (case kz_c15 => k_is); (case kz_k15 => k_is); (case kz_d16 => k_is); (case kz_l16 => k_is); (case kz_c16 => k_is); (case kz_k16 => k_is)
    (case kz_d17 => k_is); (case kz_l17 => k_is); (case kz_c17 => k_is); (case kz_k17 => k_is); (case kz_d18 => k_is); (case kz_l18 => k_is)
    (case kz_c18 => k_is); (case kz_k18 => k_is); (case kz_d19 => k_is); (case kz_l19 => k_is); (case kz_c19 => k_is); (case kz_k19 => k_is)
    (case kz_z0 => k_is); (case kz_z1 => k_is); (case kz_z2 => k_is); (case kz_z3 => k_is); (case kz_z4 => k_is); (case kz_z5 => k_is)
    (case kz_z6 => k_is); (case kz_z7 => k_is); (case kz_z8 => k_is); (case kz_z9 => k_is); (case kz_z10 => k_is); (case kz_z11 => k_is)
    (case kz_z12 => k_is); (case kz_z13 => k_is); (case kz_z14 => k_is); (case kz_z15 => k_is); (case kz_z16 => k_is); (case kz_ma0 => k_is)
    (case kz_mf0 => k_is); (case kz_ml0 => k_is); (case kz_mc0 => k_is); (case kz_mk0 => k_is); (case kz_ma1 => k_is); (case kz_mr1 => k_is)
    (case kz_mi1 => k_is); (case kz_ml1 => k_is); (case kz_mc1 => k_is); (case kz_mk1 => k_is); (case kz_ma2 => k_is); (case kz_mr2 => k_is)
    (case kz_mi2 => k_is); (case kz_ml2 => k_is); (case kz_mc2 => k_is); (case kz_mk2 => k_is); (case kz_ma3 => k_is); (case kz_mg3 => k_is)
    (case kz_mt3 => k_is); (case kz_mr3 => k_is); (case kz_ml3 => k_is); (case kz_mc3 => k_is); (case kz_mk3 => k_is); (case kz_ma4 => k_is)
    (case kz_mg4 => k_is); (case kz_mt4 => k_is); (case kz_mr4 => k_is); (case kz_ml4 => k_is); (case kz_mc4 => k_is); (case kz_mk4 => k_is)
    (case kz_ma5 => k_is); (case kz_mg5 => k_is); (case kz_mt5 => k_is); (case kz_mr5 => k_is); (case kz_ml5 => k_is); (case kz_mc5 => k_is)
    (case kz_mk5 => k_is); (case kz_ma6 => k_is); (case kz_mg6 => k_is); (case kz_mt6 => k_is); (case kz_mr6 => k_is); (case kz_ml6 => k_is)
    (case kz_mc6 => k_is); (case kz_mk6 => k_is); (case kz_ma7 => k_is); (case kz_mg7 => k_is); (case kz_mt7 => k_is); (case kz_mr7 => k_is)
    (case kz_ml7 => k_is); (case kz_mc7 => k_is); (case kz_mk7 => k_is); (case kz_ma8 => k_is); (case kz_mf8 => k_is); (case kz_mi8 => k_is)
    (case kz_ml8 => k_is); (case kz_mc8 => k_is); (case kz_mk8 => k_is); (case kz_ma9 => k_is); (case kz_mf9 => k_is); (case kz_ml9 => k_is)
    (case kz_mc9 => k_is); (case kz_mk9 => k_is); (case kz_ma10 => k_is); (case kz_mf10 => k_is); (case kz_ml10 => k_is); (case kz_mc10 => k_is)
    (case kz_mk10 => k_is); (case kz_ma11 => k_is); (case kz_mf11 => k_is); (case kz_ml11 => k_is); (case kz_mc11 => k_is); (case kz_mk11 => k_is)
    (case kz_ma12 => k_is); (case kz_mf12 => k_is); (case kz_ml12 => k_is); (case kz_mc12 => k_is); (case kz_mk12 => k_is); (case kz_ma13 => k_is)
    (case kz_mf13 => k_is); (case kz_ml13 => k_is); (case kz_mc13 => k_is); (case kz_mk13 => k_is); (case kz_cpg => k_is); (case kz_chd => k_is)
    (case kz_cpo => k_is); (case kz_csa => k_is); (case kz_cnL => k_is); (case kz_cnT => k_is); (case kz_cmk => k_is); (case kz_ckp => k_is)
    (case kz_crd => k_is); (case kz_cga => k_is); (case kz_cne => k_is); (case kz_cso => k_is); (case kz_cha => k_is); (case kz_chn => k_is)
    (case kz_cht => k_is); (case kz_chm => k_is); (case kz_x0 => k_is); (case kz_ega => k_is); (case kz_egg => k_is); (case kz_exC => k_is)
    (case kz_ehd => k_is); (case kz_ekp => k_is); (case kz_ety => k_is); (case kz_s0 => k_is); (case kz_n0 => k_is); (case kz_i0 => k_is)
    (case kz_t0 => k_is); (case kz_y0 => k_is); (case kz_v0 => k_is)
    (case kz_cse => kernel_rfl)
    (case kz_bno => kernel_rfl)
    (case kz_bnf => kernel_rfl)
    (case kz_em => kernel_rfl)
#print axioms PySem.Challenge.cw_asunmoved_k16_readers_as_values_holds

