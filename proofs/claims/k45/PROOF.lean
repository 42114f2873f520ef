import PyProof.Rows.All
import Wide.All
import OpenK.AllK
import Wide.FinOn
import HandS.ForMost
import HandS.Rev
import HandS.TupAny
import HandS.Wide
import PyProof.ReprRoads
import KE.SortData
import HandS.Conv
import HandS.IsInst
import HandS.TupSets
import HandS.Style
import KE.GoesMore
import HandS.DictComp
import HandS.TupLe
import HandS.TryOnly
import PyProof.SeqIndex
import KE.KDictDisplayH
import KE.KDictSum
import HandS.ExcOwn
import HandS.ExcInit
import HandS.ExcField
import HandS.WordsExc
import KE.KExcIs
import KE.KTryMore
import HandS.ExcIs
import KE.DataMinMax
import HandS.CallLocal
import PySem.Challenge.RW_treelamps_k45_whole_side_by_side
set_option Elab.async false
set_option linter.all false
set_option maxRecDepth 100000
set_option maxHeartbeats 4000000
namespace TL
/-! ### ascending lists -/
abbrev Asc (l : List Int) : Prop := l.Pairwise (· < ·)
theorem asc_ext : ∀ {a b : List Int}, Asc a → Asc b → (∀ x, x ∈ a ↔ x ∈ b) → a = b
  | [], [], _, _, _ => rfl
  | [], y :: b, _, _, h => absurd ((h y).mpr List.mem_cons_self) (by simp)
  | x :: a, [], _, _, h => absurd ((h x).mp List.mem_cons_self) (by simp)
  | x :: a, y :: b, ha, hb, h => by
    have ha' := List.pairwise_cons.mp ha
    have hb' := List.pairwise_cons.mp hb
    have e : x = y := by
      rcases List.mem_cons.mp ((h x).mp List.mem_cons_self) with e | q
      · exact e
      · rcases List.mem_cons.mp ((h y).mpr List.mem_cons_self) with e | r
        · exact e.symm
        · have h1 := hb'.1 x q
          have h2 := ha'.1 y r
          omega
    subst e
    congr 1
    refine asc_ext ha'.2 hb'.2 fun z => ⟨fun hz => ?_, fun hz => ?_⟩
    · rcases List.mem_cons.mp ((h z).mp (List.mem_cons_of_mem _ hz)) with e | q
      · have := ha'.1 z hz
        omega
      · exact q
    · rcases List.mem_cons.mp ((h z).mpr (List.mem_cons_of_mem _ hz)) with e | q
      · have := hb'.1 z hz
        omega
      · exact q
theorem Asc.nodup {l : List Int} (h : Asc l) : l.Nodup := h.imp fun h => by omega
def leI (a b : Int) : Bool := decide (a ≤ b)
def srtI (l : List Int) : List Int := l.mergeSort leI
theorem srtI_perm (l : List Int) : (srtI l).Perm l := List.mergeSort_perm l _
theorem srtI_le (l : List Int) : (srtI l).Pairwise (· ≤ ·) :=
  (List.pairwise_mergeSort (le := leI) (fun a b c h1 h2 => by
    have h1 := of_decide_eq_true h1
    have h2 := of_decide_eq_true h2
    exact decide_eq_true (by omega)) (fun a b => by
    unfold leI
    by_cases h : a ≤ b
    · simp [h]
    · have : b ≤ a := by omega
      simp [this]) l).imp fun h => of_decide_eq_true h
theorem mem_srtI {l : List Int} {x : Int} : x ∈ srtI l ↔ x ∈ l := (srtI_perm l).mem_iff
theorem srtI_asc {l : List Int} (h : l.Nodup) : Asc (srtI l) := by
  have n : (srtI l).Nodup := (srtI_perm l).nodup_iff.mpr h
  exact ((srtI_le l).and n).imp fun h => by omega
theorem srtI_of_asc {l : List Int} (h : Asc l) : srtI l = l :=
  List.mergeSort_of_pairwise (h.imp fun h => decide_eq_true (by omega))
theorem srtI_congr {a b : List Int} (h : a.Perm b) : srtI a = srtI b := by
  have p : (srtI a).Perm (srtI b) := (srtI_perm a).trans (h.trans (srtI_perm b).symm)
  exact p.eq_of_pairwise (fun x y _ _ h1 h2 => by omega) (srtI_le a) (srtI_le b)
theorem srtI_length (l : List Int) : (srtI l).length = l.length := (srtI_perm l).length_eq
/-! ### pairs -/
abbrev LtP (p q : Int × Int) : Prop := p.1 < q.1 ∨ (p.1 = q.1 ∧ p.2 < q.2)
abbrev AscP (l : List (Int × Int)) : Prop := l.Pairwise LtP
def leP (p q : Int × Int) : Bool := decide (p.1 < q.1 ∨ (p.1 = q.1 ∧ p.2 ≤ q.2))
def srtP (l : List (Int × Int)) : List (Int × Int) := l.mergeSort leP
theorem srtP_perm (l : List (Int × Int)) : (srtP l).Perm l := List.mergeSort_perm l _
theorem srtP_le (l : List (Int × Int)) : (srtP l).Pairwise fun p q => p.1 < q.1 ∨ (p.1 = q.1 ∧ p.2 ≤ q.2) :=
  (List.pairwise_mergeSort (le := leP) (fun a b c h1 h2 => by
    have h1 := of_decide_eq_true h1
    have h2 := of_decide_eq_true h2
    exact decide_eq_true (by omega)) (fun a b => by
    unfold leP
    by_cases h : a.1 < b.1 ∨ (a.1 = b.1 ∧ a.2 ≤ b.2)
    · simp [h]
    · have : b.1 < a.1 ∨ (b.1 = a.1 ∧ b.2 ≤ a.2) := by omega
      simp [this]) l).imp fun h => of_decide_eq_true h
theorem mem_srtP {l : List (Int × Int)} {x : Int × Int} : x ∈ srtP l ↔ x ∈ l := (srtP_perm l).mem_iff
theorem srtP_asc {l : List (Int × Int)} (h : l.Nodup) : AscP (srtP l) := by
  have n : (srtP l).Nodup := (srtP_perm l).nodup_iff.mpr h
  refine ((srtP_le l).and n).imp fun {a b} h => ?_
  obtain ⟨h1, h2⟩ := h
  rcases h1 with h1 | ⟨h1, h3⟩
  · exact .inl h1
  · refine .inr ⟨h1, ?_⟩
    have : a.2 ≠ b.2 := fun e => h2 (Prod.ext h1 e)
    omega
theorem srtP_of_asc {l : List (Int × Int)} (h : AscP l) : srtP l = l :=
  List.mergeSort_of_pairwise (h.imp fun h => decide_eq_true (by rcases h with h | h <;> omega))
theorem srtP_length (l : List (Int × Int)) : (srtP l).length = l.length := (srtP_perm l).length_eq
/-! ### an edge between two vertices -/
def ordP (a b : Int) : Int × Int := if a ≤ b then (a, b) else (b, a)
theorem srt2 (a b : Int) : srtI [a, b] = [(ordP a b).1, (ordP a b).2] := by
  unfold ordP
  by_cases h : a ≤ b
  · rw [if_pos h]
    exact List.mergeSort_of_pairwise (le := leI) (List.pairwise_cons.mpr ⟨fun x hx => by
      obtain rfl := List.mem_singleton.mp hx
      exact decide_eq_true h, List.pairwise_singleton _ _⟩)
  · rw [if_neg h]
    have p : [a, b].Perm [b, a] := List.Perm.swap _ _ _
    rw [srtI_congr p]
    exact List.mergeSort_of_pairwise (le := leI) (List.pairwise_cons.mpr ⟨fun x hx => by
      obtain rfl := List.mem_singleton.mp hx
      exact decide_eq_true (by omega), List.pairwise_singleton _ _⟩)
theorem ordP_comm (a b : Int) : ordP a b = ordP b a := by
  unfold ordP
  by_cases h : a ≤ b
  · by_cases h2 : b ≤ a
    · obtain rfl : a = b := by omega
      rfl
    · rw [if_pos h, if_neg h2]
  · rw [if_neg h, if_pos (by omega)]
/-! ### forests as they are drawn -/
def rng (m : Nat) : List Int := (List.range m).map Int.ofNat
theorem mem_rng {m : Nat} {x : Int} : x ∈ rng m ↔ 0 ≤ x ∧ x < m := by
  unfold rng
  rw [List.mem_map]
  constructor
  · rintro ⟨i, hi, rfl⟩
    have := List.mem_range.mp hi
    simp only [Int.ofNat_eq_natCast]
    omega
  · intro h
    exact ⟨x.toNat, List.mem_range.mpr (by omega), by simp only [Int.ofNat_eq_natCast]; omega⟩
theorem rng_asc (m : Nat) : Asc (rng m) := by
  unfold rng Asc
  rw [List.pairwise_map]
  exact List.pairwise_lt_range.imp fun h => by simp only [Int.ofNat_eq_natCast]; omega
theorem rng_length (m : Nat) : (rng m).length = m := by
  unfold rng
  rw [List.length_map, List.length_range]
/-- edge k joins the k-th name with an earlier one -/
def edgeOf (nm : List Int) (q : Nat × Nat) : Int × Int := ordP (nm.getD q.1 0) (nm.getD q.2 0)
structure Grow (m : Nat) (nm : List Int) (ks : List (Nat × Nat)) : Prop where
  names : nm.Perm (rng m)
  up : ks.Pairwise fun a b => a.1 < b.1
  down : ∀ q ∈ ks, q.2 < q.1 ∧ q.1 < m
structure IsFor (m : Nat) (es : List (Int × Int)) : Prop where
  asc : AscP es
  rng : ∀ p ∈ es, 0 ≤ p.1 ∧ p.1 < p.2 ∧ p.2 < m
  grow : ∃ nm ks, Grow m nm ks ∧ es.Perm (ks.map (edgeOf nm))
theorem Grow.len {m : Nat} {nm : List Int} {ks : List (Nat × Nat)} (g : Grow m nm ks) : nm.length = m := by
  rw [g.names.length_eq, rng_length]
theorem Grow.nd {m : Nat} {nm : List Int} {ks : List (Nat × Nat)} (g : Grow m nm ks) : nm.Nodup := g.names.nodup_iff.mpr (rng_asc m).nodup
theorem Grow.name {m : Nat} {nm : List Int} {ks : List (Nat × Nat)} (g : Grow m nm ks) {i : Nat} (h : i < m) : 0 ≤ nm.getD i 0 ∧ nm.getD i 0 < m := by
  have hl : i < nm.length := by rw [g.len]; exact h
  have e : nm.getD i 0 = nm[i] := by rw [List.getD_eq_getElem?_getD, List.getElem?_eq_getElem hl]; rfl
  rw [e]
  exact mem_rng.mp (g.names.mem_iff.mp (List.getElem_mem hl))
theorem Grow.inj {m : Nat} {nm : List Int} {ks : List (Nat × Nat)} (g : Grow m nm ks) {i j : Nat} (hi : i < m) (hj : j < m) (e : nm.getD i 0 = nm.getD j 0) : i = j := by
  have hi' : i < nm.length := by rw [g.len]; exact hi
  have hj' : j < nm.length := by rw [g.len]; exact hj
  rw [List.getD_eq_getElem?_getD, List.getElem?_eq_getElem hi', List.getD_eq_getElem?_getD, List.getElem?_eq_getElem hj'] at e
  exact (List.getElem_inj g.nd).mp e
theorem Grow.edge {m : Nat} {nm : List Int} {ks : List (Nat × Nat)} (g : Grow m nm ks) {q : Nat × Nat} (h : q ∈ ks) :
    0 ≤ (edgeOf nm q).1 ∧ (edgeOf nm q).1 < (edgeOf nm q).2 ∧ (edgeOf nm q).2 < m := by
  obtain ⟨h1, h2⟩ := g.down q h
  have a := g.name h2
  have b := g.name (Nat.lt_trans h1 h2)
  have n : nm.getD q.1 0 ≠ nm.getD q.2 0 := fun e => by
    have := g.inj h2 (Nat.lt_trans h1 h2) e
    omega
  unfold edgeOf ordP
  split
  · exact ⟨a.1, by omega, b.2⟩
  · exact ⟨b.1, by omega, a.2⟩
theorem ordP_inj {a b c d : Int} (h : ordP a b = ordP c d) : (a = c ∧ b = d) ∨ (a = d ∧ b = c) := by
  unfold ordP at h
  split at h <;> split at h <;> (injection h with h1 h2; omega)
theorem Grow.nodup {m : Nat} {nm : List Int} {ks : List (Nat × Nat)} (g : Grow m nm ks) : (ks.map (edgeOf nm)).Nodup := by
  rw [List.Nodup, List.pairwise_map]
  have u := g.up
  have d := g.down
  refine (List.Pairwise.and_mem.mp u).imp ?_
  rintro a b ⟨ha, hb, hab⟩ e
  obtain ⟨a1, a2⟩ := d a ha
  obtain ⟨b1, b2⟩ := d b hb
  rcases ordP_inj e with ⟨e1, e2⟩ | ⟨e1, e2⟩
  · have := g.inj a2 b2 e1
    omega
  · have h1 := g.inj a2 (Nat.lt_trans b1 b2) e1
    have h2 := g.inj (Nat.lt_trans a1 a2) b2 e2
    omega
theorem Grow.isFor {m : Nat} {nm : List Int} {ks : List (Nat × Nat)} (g : Grow m nm ks) : IsFor m (srtP (ks.map (edgeOf nm))) where
  asc := srtP_asc g.nodup
  rng := fun p hp => by
    obtain ⟨q, hq, rfl⟩ := List.mem_map.mp (mem_srtP.mp hp)
    exact g.edge hq
  grow := ⟨nm, ks, g, srtP_perm _⟩
theorem rise_len {m : Nat} : ∀ {ks : List (Nat × Nat)} {lo : Nat}, ks.Pairwise (fun a b => a.1 < b.1) → (∀ q ∈ ks, lo ≤ q.1 ∧ q.1 < m) → ks.length ≤ m - lo
  | [], _, _, _ => Nat.zero_le _
  | q :: ks, lo, h, b => by
    have h' := List.pairwise_cons.mp h
    have hq := b q List.mem_cons_self
    have := rise_len (lo := q.1 + 1) h'.2 fun r hr => ⟨h'.1 r hr, (b r (List.mem_cons_of_mem _ hr)).2⟩
    rw [List.length_cons]
    omega
theorem Grow.count {m : Nat} {nm : List Int} {ks : List (Nat × Nat)} (g : Grow m nm ks) : ks.length ≤ m := by
  have := rise_len (lo := 0) g.up fun q hq => ⟨Nat.zero_le _, (g.down q hq).2⟩
  omega
theorem IsFor.count {m : Nat} {es : List (Int × Int)} (f : IsFor m es) : es.length ≤ m := by
  obtain ⟨nm, ks, g, p⟩ := f.grow
  rw [p.length_eq, List.length_map]
  exact g.count
/-! ### neighbours -/
def nearL (m : Nat) (es : List (Int × Int)) (v : Int) : List Int := (rng m).filter fun o => decide (ordP o v ∈ es)
def nbL (es : List (Int × Int)) (v : Int) : List Int := (es.filter fun p => decide (p.2 = v)).map (·.1) ++ (es.filter fun p => decide (p.1 = v)).map (·.2)
theorem nearL_asc (m : Nat) (es : List (Int × Int)) (v : Int) : Asc (nearL m es v) := (rng_asc m).filter _
theorem mem_nearL {m : Nat} {es : List (Int × Int)} {v o : Int} : o ∈ nearL m es v ↔ (0 ≤ o ∧ o < m) ∧ ordP o v ∈ es := by
  unfold nearL
  rw [List.mem_filter, mem_rng, decide_eq_true_eq]
theorem mem_nbL {es : List (Int × Int)} {v o : Int} : o ∈ nbL es v ↔ (o, v) ∈ es ∨ (v, o) ∈ es := by
  unfold nbL
  rw [List.mem_append, List.mem_map, List.mem_map]
  constructor
  · rintro (⟨⟨a, b⟩, h, rfl⟩ | ⟨⟨a, b⟩, h, rfl⟩)
    · obtain ⟨h1, h2⟩ := List.mem_filter.mp h
      have : b = v := of_decide_eq_true h2
      subst this
      exact .inl h1
    · obtain ⟨h1, h2⟩ := List.mem_filter.mp h
      have : a = v := of_decide_eq_true h2
      subst this
      exact .inr h1
  · rintro (h | h)
    · exact .inl ⟨(o, v), List.mem_filter.mpr ⟨h, decide_eq_true rfl⟩, rfl⟩
    · exact .inr ⟨(v, o), List.mem_filter.mpr ⟨h, decide_eq_true rfl⟩, rfl⟩
theorem IsFor.mem_ord {m : Nat} {es : List (Int × Int)} (f : IsFor m es) {o v : Int} : ordP o v ∈ es ↔ (o, v) ∈ es ∨ (v, o) ∈ es := by
  unfold ordP
  by_cases h : o ≤ v
  · rw [if_pos h]
    refine ⟨.inl, fun q => q.elim id fun q => ?_⟩
    have := f.rng _ q
    simp only at this
    omega
  · rw [if_neg h]
    refine ⟨.inr, fun q => q.elim (fun q => ?_) id⟩
    have := f.rng _ q
    simp only at this
    omega
theorem IsFor.nb {m : Nat} {es : List (Int × Int)} (f : IsFor m es) (v : Int) : nbL es v = nearL m es v := by
  refine asc_ext ?_ (nearL_asc m es v) fun o => ?_
  · unfold nbL
    refine List.pairwise_append.mpr ⟨?_, ?_, ?_⟩
    · rw [List.pairwise_map]
      refine (List.Pairwise.and_mem.mp (f.asc.filter fun p => decide (p.2 = v))).imp ?_
      rintro a b ⟨ha, hb, hab⟩
      have h1 : a.2 = v := of_decide_eq_true (List.mem_filter.mp ha).2
      have h2 : b.2 = v := of_decide_eq_true (List.mem_filter.mp hb).2
      rcases hab with h | h <;> omega
    · rw [List.pairwise_map]
      refine (List.Pairwise.and_mem.mp (f.asc.filter fun p => decide (p.1 = v))).imp ?_
      rintro a b ⟨ha, hb, hab⟩
      have h1 : a.1 = v := of_decide_eq_true (List.mem_filter.mp ha).2
      have h2 : b.1 = v := of_decide_eq_true (List.mem_filter.mp hb).2
      rcases hab with h | h <;> omega
    · intro x hx y hy
      obtain ⟨a, ha, rfl⟩ := List.mem_map.mp hx
      obtain ⟨b, hb, rfl⟩ := List.mem_map.mp hy
      have a1 := f.rng _ (List.mem_filter.mp ha).1
      have b1 := f.rng _ (List.mem_filter.mp hb).1
      have h1 : a.2 = v := of_decide_eq_true (List.mem_filter.mp ha).2
      have h2 : b.1 = v := of_decide_eq_true (List.mem_filter.mp hb).2
      omega
  · rw [mem_nbL, mem_nearL, f.mem_ord]
    refine ⟨fun h => ⟨?_, h⟩, fun h => h.2⟩
    rcases h with h | h
    · have := f.rng _ h
      simp only at this
      omega
    · have := f.rng _ h
      simp only at this
      omega
/-! ### settings -/
structure IsSet (m : Nat) (es : List (Int × Int)) (S : List Int) : Prop where
  asc : Asc S
  rng : ∀ v ∈ S, 0 ≤ v ∧ v < m
  free : ∀ u ∈ S, ∀ v ∈ S, ordP u v ∉ es
end TL
namespace TL
/-! ### slides -/
def oth (m : Nat) (es : List (Int × Int)) (S : List Int) (u v : Int) : List Int := (nearL m es v).filter fun o => decide (o ∈ S) && !decide (o = u)
theorem mem_oth {m : Nat} {es : List (Int × Int)} {S : List Int} {u v o : Int} : o ∈ oth m es S u v ↔ o ∈ nearL m es v ∧ o ∈ S ∧ o ≠ u := by
  unfold oth
  rw [List.mem_filter, Bool.and_eq_true, decide_eq_true_eq, Bool.not_eq_true', decide_eq_false_iff_not]
def stepsL (m : Nat) (es : List (Int × Int)) (T : List Int) : List (Int × Int) := T.flatMap fun u => (nearL m es u).map fun v => (u, v)
def slidesP (m : Nat) (es : List (Int × Int)) (S : List Int) : List (Int × Int) := (stepsL m es S).filter fun p => decide (oth m es S p.1 p.2 = [])
def slidesT (m : Nat) (es : List (Int × Int)) (S T : List Int) : List (Int × Int) := T.flatMap fun u => ((nearL m es u).filter fun v => decide (oth m es S u v = [])).map fun v => (u, v)
theorem slides_eqT (m : Nat) (es : List (Int × Int)) (S : List Int) : ∀ T : List Int, (stepsL m es T).filter (fun p => decide (oth m es S p.1 p.2 = [])) = slidesT m es S T
  | [] => rfl
  | u :: T => by
    have ih := slides_eqT m es S T
    unfold stepsL slidesT at ih ⊢
    rw [List.flatMap_cons, List.flatMap_cons, List.filter_append, ih, List.filter_map]
    rfl
theorem slides_eq (m : Nat) (es : List (Int × Int)) (S : List Int) : slidesP m es S = slidesT m es S S := slides_eqT m es S S
theorem mem_slidesP {m : Nat} {es : List (Int × Int)} {S : List Int} {u v : Int} : (u, v) ∈ slidesP m es S ↔ u ∈ S ∧ v ∈ nearL m es u ∧ oth m es S u v = [] := by
  unfold slidesP stepsL
  rw [List.mem_filter, List.mem_flatMap, decide_eq_true_eq]
  constructor
  · rintro ⟨⟨a, ha, hb⟩, h⟩
    obtain ⟨b, hb, e⟩ := List.mem_map.mp hb
    cases e
    exact ⟨ha, hb, h⟩
  · rintro ⟨h1, h2, h3⟩
    exact ⟨⟨u, h1, List.mem_map.mpr ⟨v, h2, rfl⟩⟩, h3⟩
theorem ascP_steps (m : Nat) (es : List (Int × Int)) : ∀ {T : List Int}, Asc T → AscP (stepsL m es T)
  | [], _ => .nil
  | u :: T, h => by
    have h' := List.pairwise_cons.mp h
    unfold stepsL
    rw [List.flatMap_cons]
    refine List.pairwise_append.mpr ⟨?_, ascP_steps m es h'.2, ?_⟩
    · rw [List.pairwise_map]
      exact (nearL_asc m es u).imp fun h => .inr ⟨rfl, h⟩
    · intro a ha b hb
      obtain ⟨v, _, rfl⟩ := List.mem_map.mp ha
      obtain ⟨z, hz, hb⟩ := List.mem_flatMap.mp hb
      obtain ⟨y, _, rfl⟩ := List.mem_map.mp hb
      exact .inl (h'.1 z hz)
theorem ascP_slides {m : Nat} {es : List (Int × Int)} {S : List Int} (h : Asc S) : AscP (slidesP m es S) := (ascP_steps m es h).filter _
theorem nearL_len (m : Nat) (es : List (Int × Int)) (v : Int) : (nearL m es v).length ≤ m := by
  have := List.length_filter_le (fun o => decide (ordP o v ∈ es)) (rng m)
  rw [rng_length] at this
  exact this
theorem asc_len {m : Nat} : ∀ {S : List Int} {lo : Nat}, Asc S → (∀ v ∈ S, (lo : Int) ≤ v ∧ v < m) → S.length ≤ m - lo
  | [], _, _, _ => Nat.zero_le _
  | v :: S, lo, h, b => by
    have h' := List.pairwise_cons.mp h
    have hv := b v List.mem_cons_self
    have := asc_len (m := m) (lo := v.toNat + 1) h'.2 fun z hz => ⟨by have := h'.1 z hz; omega, (b z (List.mem_cons_of_mem _ hz)).2⟩
    rw [List.length_cons]
    omega
theorem IsSet.len {m : Nat} {es : List (Int × Int)} {S : List Int} (h : IsSet m es S) : S.length ≤ m := by
  have := asc_len (lo := 0) h.asc fun v hv => by have := h.rng v hv; omega
  omega
theorem steps_len (m : Nat) (es : List (Int × Int)) : ∀ T : List Int, (stepsL m es T).length ≤ T.length * m
  | [] => by simp [stepsL]
  | u :: T => by
    have ih := steps_len m es T
    unfold stepsL at ih ⊢
    rw [List.flatMap_cons, List.length_append, List.length_map, List.length_cons, Nat.add_mul, Nat.one_mul]
    have := nearL_len m es u
    omega
/-! ### the setting behind a slide -/
theorem move_perm {u v : Int} : ∀ {S : List Int}, S.Nodup → u ∈ S → (S.map fun l => if l = u then v else l).Perm (S.filter (fun l => !decide (l = u)) ++ [v])
  | [], _, h => nomatch h
  | a :: S, nd, h => by
    have nd' := List.nodup_cons.mp nd
    by_cases e : a = u
    · subst e
      rw [List.map_cons, if_pos rfl, List.filter_cons_of_neg (by simp)]
      have e1 : S.map (fun l => if l = a then v else l) = S := by
        have q : S.map (fun l => if l = a then v else l) = S.map id :=
          List.map_congr_left fun l hl => if_neg fun z => nd'.1 (by rw [← z]; exact hl)
        rw [q, List.map_id]
      have e2 : S.filter (fun l => !decide (l = a)) = S := List.filter_eq_self.mpr fun l hl => by
        have : l ≠ a := fun z => nd'.1 (z ▸ hl)
        simp [this]
      rw [e1, e2]
      exact (List.perm_append_singleton v S).symm
    · rw [List.map_cons, if_neg e, List.filter_cons_of_pos (by simp [e]), List.cons_append]
      exact List.Perm.cons a (move_perm nd'.2 ((List.mem_cons.mp h).resolve_left fun z => e z.symm))
def after (S : List Int) (u v : Int) : List Int := srtI (S.filter (fun l => !decide (l = u)) ++ [v])
theorem after_eq {S : List Int} {u v : Int} (nd : S.Nodup) (h : u ∈ S) : srtI (S.map fun l => if l = u then v else l) = after S u v := srtI_congr (move_perm nd h)
theorem IsFor.loop {m : Nat} {es : List (Int × Int)} (f : IsFor m es) (v : Int) : ordP v v ∉ es := fun h => by
  have := f.rng _ h
  unfold ordP at this
  rw [if_pos (Int.le_refl _)] at this
  simp only at this
  omega
theorem mem_after {S : List Int} {u v z : Int} : z ∈ after S u v ↔ (z ∈ S ∧ z ≠ u) ∨ z = v := by
  unfold after
  rw [mem_srtI, List.mem_append, List.mem_filter, List.mem_singleton, Bool.not_eq_true', decide_eq_false_iff_not]
theorem IsSet.after {m : Nat} {es : List (Int × Int)} {S : List Int} {u v : Int} (f : IsFor m es) (h : IsSet m es S) (hu : u ∈ S) (hv : v ∈ nearL m es u) (ho : oth m es S u v = []) :
    IsSet m es (after S u v) := by
  obtain ⟨rv, av⟩ := mem_nearL.mp hv
  have nv : v ∉ S := fun z => h.free v z u hu av
  have key : ∀ a ∈ S, a ≠ u → ordP a v ∉ es := fun a ha hne hin => by
    have : a ∈ oth m es S u v := mem_oth.mpr ⟨mem_nearL.mpr ⟨h.rng a ha, hin⟩, ha, hne⟩
    rw [ho] at this
    cases this
  refine ⟨srtI_asc ?_, fun z hz => ?_, fun a ha b hb => ?_⟩
  · refine List.nodup_append.mpr ⟨h.asc.nodup.filter _, List.pairwise_singleton _ _, fun a ha b hb e => ?_⟩
    rw [List.mem_singleton.mp hb] at e
    subst e
    exact nv (List.mem_filter.mp ha).1
  · rcases mem_after.mp hz with ⟨h1, _⟩ | rfl
    · exact h.rng z h1
    · exact rv
  · rcases mem_after.mp ha with ⟨h1, h2⟩ | rfl
    · rcases mem_after.mp hb with ⟨h3, h4⟩ | rfl
      · exact h.free a h1 b h3
      · exact key a h1 h2
    · rcases mem_after.mp hb with ⟨h3, h4⟩ | rfl
      · rw [ordP_comm]
        exact key b h3 h4
      · exact f.loop b
end TL
namespace TL
/-! ### slides one after another -/
def walk (m : Nat) (es : List (Int × Int)) : List Int → List (Int × Int) → Option (List Int)
  | S, [] => some S
  | S, p :: ps => if p ∈ slidesP m es S then walk m es (after S p.1 p.2) ps else none
theorem walk_cons {m : Nat} {es : List (Int × Int)} {S T : List Int} {p : Int × Int} {ps : List (Int × Int)} (h : walk m es S (p :: ps) = some T) :
    p ∈ slidesP m es S ∧ walk m es (after S p.1 p.2) ps = some T := by
  unfold walk at h
  split at h
  · rename_i h1
    exact ⟨h1, h⟩
  · cases h
theorem IsSet.slide {m : Nat} {es : List (Int × Int)} {S : List Int} {p : Int × Int} (f : IsFor m es) (h : IsSet m es S) (hp : p ∈ slidesP m es S) : IsSet m es (TL.after S p.1 p.2) := by
  obtain ⟨u, v⟩ := p
  obtain ⟨h1, h2, h3⟩ := mem_slidesP.mp hp
  exact IsSet.after f h h1 h2 h3
theorem mem_nearL_comm {m : Nat} {es : List (Int × Int)} (f : IsFor m es) {u v : Int} : v ∈ nearL m es u ↔ u ∈ nearL m es v := by
  rw [mem_nearL, mem_nearL, ordP_comm v u]
  constructor
  · rintro ⟨_, h⟩
    refine ⟨?_, h⟩
    rcases f.mem_ord.mp h with q | q
    · have := f.rng _ q; simp only at this; omega
    · have := f.rng _ q; simp only at this; omega
  · rintro ⟨_, h⟩
    refine ⟨?_, h⟩
    rcases f.mem_ord.mp h with q | q
    · have := f.rng _ q; simp only at this; omega
    · have := f.rng _ q; simp only at this; omega
theorem adj_free {m : Nat} {es : List (Int × Int)} {S : List Int} (h : IsSet m es S) {u v : Int} (hu : u ∈ S) (hv : v ∈ nearL m es u) : v ∉ S :=
  fun z => h.free v z u hu (mem_nearL.mp hv).2
/-- another lamp's slide after a slide -/
theorem slide_other {m : Nat} {es : List (Int × Int)} {S : List Int} (f : IsFor m es) (h : IsSet m es S) {u v u' v' : Int} (p : (u, v) ∈ slidesP m es S) (q : (u', v') ∈ slidesP m es S) (ne : u ≠ u') :
    (u', v') ∈ slidesP m es (after S u v) ↔ v' ∉ nearL m es v := by
  obtain ⟨hu, hv, ho⟩ := mem_slidesP.mp p
  obtain ⟨hu', hv', ho'⟩ := mem_slidesP.mp q
  have nv := adj_free h hu hv
  rw [mem_slidesP]
  constructor
  · rintro ⟨_, _, o⟩ z
    have : v ∈ oth m es (after S u v) u' v' := mem_oth.mpr ⟨(mem_nearL_comm f).mp z, mem_after.mpr (.inr rfl), fun e => nv (e ▸ hu')⟩
    rw [o] at this
    cases this
  · intro z
    refine ⟨mem_after.mpr (.inl ⟨hu', fun e => ne e.symm⟩), hv', ?_⟩
    refine List.eq_nil_iff_forall_not_mem.mpr fun a ha => ?_
    obtain ⟨h1, h2, h3⟩ := mem_oth.mp ha
    rcases mem_after.mp h2 with ⟨h4, h5⟩ | rfl
    · have : a ∈ oth m es S u' v' := mem_oth.mpr ⟨h1, h4, h3⟩
      rw [ho'] at this
      cases this
    · exact z ((mem_nearL_comm f).mp h1)
theorem slide_same {m : Nat} {es : List (Int × Int)} {S : List Int} (f : IsFor m es) (h : IsSet m es S) {u v v' : Int} (p : (u, v) ∈ slidesP m es S) : (u, v') ∉ slidesP m es (after S u v) := by
  obtain ⟨hu, hv, ho⟩ := mem_slidesP.mp p
  have nv := adj_free h hu hv
  intro z
  rcases mem_after.mp (mem_slidesP.mp z).1 with ⟨_, h2⟩ | h2
  · exact h2 rfl
  · exact nv (h2 ▸ hu)
theorem slide_back {m : Nat} {es : List (Int × Int)} {S : List Int} (f : IsFor m es) (h : IsSet m es S) {u v : Int} (p : (u, v) ∈ slidesP m es S) : (v, u) ∈ slidesP m es (after S u v) := by
  obtain ⟨hu, hv, ho⟩ := mem_slidesP.mp p
  refine mem_slidesP.mpr ⟨mem_after.mpr (.inr rfl), (mem_nearL_comm f).mp hv, ?_⟩
  refine List.eq_nil_iff_forall_not_mem.mpr fun a ha => ?_
  obtain ⟨h1, h2, h3⟩ := mem_oth.mp ha
  rcases mem_after.mp h2 with ⟨h4, h5⟩ | h4
  · exact h.free a h4 u hu (mem_nearL.mp h1).2
  · exact h3 h4
theorem after_comm {m : Nat} {es : List (Int × Int)} {S : List Int} (f : IsFor m es) (h : IsSet m es S) {u v u' v' : Int} (p : (u, v) ∈ slidesP m es S) (q : (u', v') ∈ slidesP m es S) (ne : u ≠ u')
    (ap : v' ∉ nearL m es v) : after (after S u v) u' v' = after (after S u' v') u v := by
  obtain ⟨hu, hv, ho⟩ := mem_slidesP.mp p
  obtain ⟨hu', hv', ho'⟩ := mem_slidesP.mp q
  have nv := adj_free h hu hv
  have nv' := adj_free h hu' hv'
  have s1 := IsSet.slide f (IsSet.slide f h p) ((slide_other f h p q ne).mpr ap)
  have ap' : v ∉ nearL m es v' := fun z => ap ((mem_nearL_comm f).mp z)
  have s2 := IsSet.slide f (IsSet.slide f h q) ((slide_other f h q p (Ne.symm ne)).mpr ap')
  refine asc_ext s1.asc s2.asc fun z => ?_
  have e1 : v ≠ u' := fun e => nv (e ▸ hu')
  have e2 : v' ≠ u := fun e => nv' (e ▸ hu)
  rw [mem_after, mem_after, mem_after, mem_after]
  constructor
  · rintro (⟨⟨a, b⟩ | a, c⟩ | a)
    · exact .inl ⟨.inl ⟨a, c⟩, b⟩
    · exact .inr a
    · exact .inl ⟨.inr a, by rw [a]; exact e2⟩
  · rintro (⟨⟨a, b⟩ | a, c⟩ | a)
    · exact .inl ⟨.inl ⟨a, c⟩, b⟩
    · exact .inr a
    · exact .inl ⟨.inr a, by rw [a]; exact e1⟩
theorem walk_two {m : Nat} {es : List (Int × Int)} {S : List Int} (f : IsFor m es) (h : IsSet m es S) {p q : Int × Int} (hp : p ∈ slidesP m es S) (hq : q ∈ slidesP m es S) (ne : p.1 ≠ q.1)
    (ap : q.2 ∉ nearL m es p.2) : walk m es S [p, q] = some (after (after S p.1 p.2) q.1 q.2) := by
  have h2 : q ∈ slidesP m es (after S p.1 p.2) := (slide_other f h (u := p.1) (v := p.2) (u' := q.1) (v' := q.2) hp hq ne).mpr ap
  unfold walk
  rw [if_pos hp]
  unfold walk
  rw [if_pos h2]
  rfl
end TL
namespace TL
/-! ### labels: vertices that edges join have one label -/
inductive Conn (es : List (Int × Int)) : Int → Int → Prop
  | refl (a : Int) : Conn es a a
  | step {a b c : Int} : Conn es a b → ((b, c) ∈ es ∨ (c, b) ∈ es) → Conn es a c
theorem Conn.trans {es : List (Int × Int)} {a b c : Int} (h : Conn es a b) (k : Conn es b c) : Conn es a c := by
  induction k with
  | refl => exact h
  | step _ e ih => exact .step ih e
theorem Conn.symm {es : List (Int × Int)} {a b : Int} (h : Conn es a b) : Conn es b a := by
  induction h with
  | refl => exact .refl _
  | step _ e ih => exact Conn.trans (.step (.refl _) e.symm) ih
theorem Conn.mono {es fs : List (Int × Int)} (s : ∀ p ∈ es, p ∈ fs) {a b : Int} (h : Conn es a b) : Conn fs a b := by
  induction h with
  | refl => exact .refl _
  | step _ e ih => exact .step ih (e.imp (s _) (s _))
def mrg (f : Int → Int) (a b : Int) : Int → Int := fun v => if f v = f a then f b else f v
structure Lab (es : List (Int × Int)) (vs : List Int) (f : Int → Int) : Prop where
  join : ∀ p ∈ es, p.1 ∈ vs → p.2 ∈ vs → f p.1 = f p.2
  conn : ∀ a ∈ vs, ∀ b ∈ vs, f a = f b → Conn (es.filter fun p => decide (p.1 ∈ vs) && decide (p.2 ∈ vs)) a b
theorem Lab.start (vs : List Int) : Lab [] vs id := ⟨(fun _ h => nomatch h), fun a _ b _ e => by
  have e : a = b := e
  rw [e]
  exact .refl _⟩
theorem filt_sub {es : List (Int × Int)} {p : Int × Int} {q : Int × Int → Bool} : ∀ r ∈ es.filter q, r ∈ (es ++ [p]).filter q := fun r hr => by
  rw [List.filter_append]
  exact List.mem_append_left _ hr
theorem Lab.skip {es : List (Int × Int)} {vs : List Int} {f : Int → Int} {p : Int × Int} (h : Lab es vs f) (n : ¬ (p.1 ∈ vs ∧ p.2 ∈ vs)) : Lab (es ++ [p]) vs f where
  join := fun r hr h1 h2 => by
    rcases List.mem_append.mp hr with hr | hr
    · exact h.join r hr h1 h2
    · rw [List.mem_singleton.mp hr] at h1 h2
      exact absurd ⟨h1, h2⟩ n
  conn := fun a ha b hb e => (h.conn a ha b hb e).mono filt_sub
theorem Lab.merge {es : List (Int × Int)} {vs : List Int} {f : Int → Int} {p : Int × Int} (h : Lab es vs f) (h1 : p.1 ∈ vs) (h2 : p.2 ∈ vs) : Lab (es ++ [p]) vs (mrg f p.1 p.2) where
  join := fun r hr k1 k2 => by
    unfold mrg
    rcases List.mem_append.mp hr with hr | hr
    · rw [h.join r hr k1 k2]
    · rw [List.mem_singleton.mp hr, if_pos rfl]
      split <;> rfl
  conn := fun a ha b hb e => by
    have up : ∀ x ∈ vs, ∀ y ∈ vs, f x = f y → Conn ((es ++ [p]).filter fun p => decide (p.1 ∈ vs) && decide (p.2 ∈ vs)) x y := fun x hx y hy q => (h.conn x hx y hy q).mono filt_sub
    have ed : Conn ((es ++ [p]).filter fun p => decide (p.1 ∈ vs) && decide (p.2 ∈ vs)) p.1 p.2 := by
      refine .step (.refl _) (.inl ?_)
      refine List.mem_filter.mpr ⟨List.mem_append_right _ (List.mem_singleton.mpr rfl), ?_⟩
      rw [Bool.and_eq_true, decide_eq_true_eq, decide_eq_true_eq]
      exact ⟨h1, h2⟩
    unfold mrg at e
    by_cases ea : f a = f p.1
    · by_cases eb : f b = f p.1
      · exact up a ha b hb (ea.trans eb.symm)
      · rw [if_pos ea, if_neg eb] at e
        exact ((up a ha _ h1 ea).trans ed).trans (up _ h2 b hb e)
    · by_cases eb : f b = f p.1
      · rw [if_neg ea, if_pos eb] at e
        exact (((up b hb _ h1 eb).trans ed).trans (up _ h2 a ha e.symm)).symm
      · rw [if_neg ea, if_neg eb] at e
        exact up a ha b hb e
/-! ### groups of one label -/
structure Grp (f : Int → Int) (T : List Int) (gs : List (Int × List Int)) : Prop where
  nd : (gs.map (·.1)).Nodup
  is : ∀ g ∈ gs, g.2 = T.filter (fun v => decide (f v = g.1)) ∧ g.2 ≠ []
  all : ∀ v ∈ T, f v ∈ gs.map (·.1)
theorem Grp.start (f : Int → Int) : Grp f [] [] := ⟨.nil, (fun _ h => nomatch h), (fun _ h => nomatch h)⟩
def addG (gs : List (Int × List Int)) (l v : Int) : List (Int × List Int) :=
  if l ∈ gs.map (·.1) then gs.map (fun g => if g.1 = l then (g.1, g.2 ++ [v]) else g) else gs ++ [(l, [v])]
theorem addG_keys_old {gs : List (Int × List Int)} {l v : Int} : (gs.map (fun g => if g.1 = l then (g.1, g.2 ++ [v]) else g)).map (·.1) = gs.map (·.1) := by
  rw [List.map_map]
  refine List.map_congr_left fun g _ => ?_
  show (if g.1 = l then (g.1, g.2 ++ [v]) else g).1 = g.1
  split <;> rfl
theorem Grp.add {f : Int → Int} {T : List Int} {gs : List (Int × List Int)} (h : Grp f T gs) (v : Int) : Grp f (T ++ [v]) (addG gs (f v) v) := by
  unfold addG
  by_cases hin : f v ∈ gs.map (·.1)
  · rw [if_pos hin]
    refine ⟨by rw [addG_keys_old]; exact h.nd, fun g hg => ?_, fun u hu => ?_⟩
    · obtain ⟨g0, hg0, rfl⟩ := List.mem_map.mp hg
      obtain ⟨i1, i2⟩ := h.is g0 hg0
      by_cases e : g0.1 = f v
      · rw [if_pos e]
        refine ⟨?_, by simp⟩
        show g0.2 ++ [v] = _
        rw [List.filter_append, ← i1, List.filter_cons_of_pos (by simp [e])]
        rfl
      · rw [if_neg e]
        refine ⟨?_, i2⟩
        rw [List.filter_append, ← i1, List.filter_cons_of_neg (by simp; exact fun z => e z.symm), List.filter_nil, List.append_nil]
    · rw [addG_keys_old]
      rcases List.mem_append.mp hu with hu | hu
      · exact h.all u hu
      · rw [List.mem_singleton.mp hu]
        exact hin
  · rw [if_neg hin]
    have none : T.filter (fun u => decide (f u = f v)) = [] := List.filter_eq_nil_iff.mpr fun u hu z => hin (by
      rw [← of_decide_eq_true z]
      exact h.all u hu)
    refine ⟨?_, fun g hg => ?_, fun u hu => ?_⟩
    · rw [List.map_append]
      refine List.nodup_append.mpr ⟨h.nd, List.pairwise_singleton _ _, fun a ha b hb e => ?_⟩
      rw [List.mem_singleton.mp hb] at e
      have e : a = f v := e
      rw [e] at ha
      exact hin ha
    · rcases List.mem_append.mp hg with hg | hg
      · obtain ⟨i1, i2⟩ := h.is g hg
        refine ⟨?_, i2⟩
        have : ¬ f v = g.1 := fun z => hin (by rw [z]; exact List.mem_map.mpr ⟨g, hg, rfl⟩)
        rw [List.filter_append, ← i1, List.filter_cons_of_neg (by simp [this]), List.filter_nil, List.append_nil]
      · rw [List.mem_singleton.mp hg]
        refine ⟨?_, by simp⟩
        rw [List.filter_append, none, List.nil_append, List.filter_cons_of_pos (by simp)]
        rfl
    · rw [List.map_append]
      rcases List.mem_append.mp hu with hu | hu
      · exact List.mem_append_left _ (h.all u hu)
      · rw [List.mem_singleton.mp hu]
        exact List.mem_append_right _ (List.mem_singleton.mpr rfl)
theorem Grp.len {f : Int → Int} {T : List Int} {gs : List (Int × List Int)} (h : Grp f T gs) : gs.length ≤ T.length := by
  have key : ∀ (l : List Int), l.Nodup → (∀ x ∈ l, x ∈ T.map f) → l.length ≤ T.length := by
    intro l nd sub
    have := nd.length_le_of_subset sub
    rw [List.length_map] at this
    exact this
  have := key (gs.map (·.1)) h.nd fun x hx => by
    obtain ⟨g, hg, rfl⟩ := List.mem_map.mp hx
    obtain ⟨i1, i2⟩ := h.is g hg
    obtain ⟨u, hu⟩ := List.exists_mem_of_ne_nil _ i2
    rw [i1] at hu
    obtain ⟨a, b⟩ := List.mem_filter.mp hu
    exact List.mem_map.mpr ⟨u, a, of_decide_eq_true b⟩
  rw [List.length_map] at this
  exact this
end TL
namespace TL
open PySem PySem.Spec PyProof.Rows L2

/-! ### defs that show data: they run where no text is being made -/
/-- as the layer's promise of a def, for callers outside of any showing -/
structure FnG (P : Program) (w : World) (K : PySem.W.Frag) (mg : Str → Option Value)
    (base : Heap) (k : Nat) (f : Addr) (fd : FuncData) (ps : List Str) (sp : Sp) : Prop where
  wide : ∀ vs H Q E, sp vs H Q E → vs.length = ps.length
  goes : ∀ (A : Around) (out : List Env) (s : Shared) (H : Hp) (args : Args) (us : List Value)
    (vs : List V) (Q : VK) (E : XK), Room k A → A.guards = some [] →
    Env0 P w K mg base A out s H → BindsTo s fd args (ps.zip us) → Vals vs us → sp vs H Q E →
    codeAny (model P w) A (.call (.ref f) args) (CR CX0 out P w H s Q E) s
section
variable {P : Program} {w : World} {K : PySem.W.Frag} {mg : Str → Option Value} {base : Heap}
theorem FnG.of {k : Nat} {f : Addr} {fd : FuncData} {ps : List Str} {sp : Sp}
    (F : FnOk P w K mg base CX0 k f fd ps sp) : FnG P w K mg base k f fd ps sp :=
  ⟨F.len, fun A out s H args us vs Q E hr _ => F.run A out s H args us vs Q E hr⟩

theorem okG {x qual : Str} {st : Stmt} {f : Addr} {fd : FuncData} {N ps : List Str} {k : Nat} {sp : Sp}
    (F : Fun K x qual st f fd) (S : FnScope N ps (defScope st))
    (len : ∀ vs H Q E, sp vs H Q E → vs.length = ps.length)
    (hb : ∀ (cdv : Value) (A : Around) (out : List Env) (s : Shared) (H : Hp) (vs : List V) (Q : VK) (E : XK),
      Room k (A.deeper (envOfC qual (defScope st) s.heap.objs.size f cdv)) → A.guards = some [] → sp vs H Q E →
      ∃ t, PSs (cxOf CX0 P w K mg base N qual (defScope st) f cdv A out s H E).nox (defBody st) t ∧
        t { nx := fun _ H' => Q .non H', rt := Q } (start N vs) H) :
    FnG P w K mg base (k + 1) f fd ps sp := by
  obtain ⟨oc, od, kV, doc, pm, an, cdv, ct, osl, rfl, lk, hcd⟩ := F.ex
  refine ⟨len, fun A out s H args us vs Q E hr gd e0 bnd r hsp => ?_⟩
  have stays : ∀ b o, base.get? b = some o → s.heap.get? b = some o := fun b o e => (e0.bs b o e).1
  have KX : K.In s.heap := e0.mod.kin.keeps stays
  have nl : s.heap.NoLimit := e0.mod.nolimit.keeps stays
  have kinds : ∀ y ∈ ps.zip us, (defScope st).names.lookup y.1 = some .local ∨
      ((defScope st).names.lookup y.1 = some .cell ∧
        ((cellsFrom (s.heap.objs.size + 1) (defScope st).names []).lookup y.1).isSome = true) := by
    rintro ⟨n, v⟩ hy
    exact (S.par n (List.of_mem_zip hy).1).imp id fun q => ⟨q, PySem.W.cellsFrom_some _ _ _ (.inl q)⟩
  refine codeAny_call_function hr.depth (KX _ _ lk) rfl S.co S.gen rfl
    (PySem.W.codeRec_of KX hcd) (bnd _ _ _ _ ?_)
  refine wpAny_newFunctionEnv_cells S.kind kinds fun env he s1 ic => ?_
  subst he
  refine ⟨nl.keeps ic.toInCall.keep, codeAny_func ?_⟩
  obtain ⟨t, ht, hq⟩ := hb cdv A out s H vs Q E (hr.deeper _) gd hsp
  have J := inv_start (CX := CX0) (E := E) S hr.hd e0 (len _ _ _ _ hsp) r ic
  refine wpAny_mono (ht.nox.run [] s1 (start N vs) H _ J hq) (fun fl s' hs => ?_) fun e s' hs => hs
  match fl, hs with
  | .ret u, ⟨v, σ', H', J', rv, q⟩ => exact ⟨v, H', J'.os, J'.bare, J'.base, J'.hok, rv, q⟩
  | .next, ⟨σ', H', J', q⟩ => exact ⟨V.non, H', J'.os, J'.bare, J'.base, J'.hok, rfl, q⟩
  | .brk, ⟨_, _, _, q⟩ => exact False.elim q
  | .cont, ⟨_, _, _, q⟩ => exact False.elim q
end

section
variable {X : Cx} {k : Nat} {f : Addr} {fd : FuncData} {ps : List Str} {sp : Sp} {x : Str} {p pos : Pos}
  {e : Expr} {es : List Expr} {t : TA}
theorem pe_callG (F : FnG X.prog X.w X.K X.mg X.base k f fd ps sp) (hr : Room k X.A) (gd : X.A.guards = some [])
    (hg : Gl X x) (hm : X.mg x = some (.ref f)) (hk : PySem.W.keepIn X.K (.ref f) = true) (hb : Binds X.K fd ps [])
    (ha : PA X (e :: es) t) (hdb : (x == ("__debug__" : Str)) = false := by decide)
    (he : starEach (e :: es) X.env = (false, eval e X.env) :: starEach es X.env := by rfl)
    (hpl : (backTo pos (starEach es X.env)).any (·.1) = false := by rfl) :
    PE X (.Call (.Name x p) (e :: es) [] pos) (tCall sp [] E0 t) := by
  refine ⟨fun pins s σ H Q I h => wpAny_Call_Name_kw (ld_glob I hg hm ?_ hdb)⟩
  refine PySem.W.callWith_K (h₀ := X.base) I.ok.mod.kin hk
    (thn (ha.run pos pins s σ H _ I h) fun us s1 ⟨vs, H1, I1, r, q⟩ => ⟨I1.kIn, ?_⟩) he hpl
  have q1 : sp (vs ++ []) H1 Q E0 := q
  have q2 : sp vs H1 Q E0 := by rw [List.append_nil] at q1; exact q1
  have bd := hb s1 us I1.kIn (by rw [List.append_nil, ← r.length]; exact F.wide _ _ _ _ q2)
  rw [List.append_nil] at bd
  refine wpAny_call (codeAny_mono (F.goes X.A X.stack s1 H1 ⟨us, []⟩ us vs Q E0 hr gd I1.env0 bd r q2)
    fun res s' hq => ?_)
  match res, hq with
  | .ok (.ret u), hq => exact I1.after hq
  | .ok .next, hq => exact False.elim hq
  | .ok .brk, hq => exact False.elim hq
  | .ok .cont, hq => exact False.elim hq
  | .error e, hq => exact False.elim hq
end

/-! ### the law's own call -/
theorem law_callG {P : Program} {w : World} {K : PySem.W.Frag} {mg mb : Str → Option Value} {k : Nat}
    {fa a : Addr} {fd : FuncData} {x : Str} {sp : Sp} {s : Shared} {vs : List Value} {ns : List Int}
    (KX : K.In s.heap) (hns : s.heap.Ns mainGlobals mg) (hb : s.heap.Ns builtinsNs mb)
    (hbb : ∀ x : Str, x ≠ "__name__" → mb x = bootBuiltins x) (nl : s.heap.NoLimit) (hg : s.gens = #[])
    (ha : s.heap.get? a = some { cls := .type "list", data := .seq vs.toArray }) (hi : IntsAre vs ns)
    (hl : ns.length ≤ sizeLine) (hr : Room k callerA)
    (F : ∀ base : Heap, K.In base → base.Ns mainGlobals mg → FnG P w K mg base k fa fd [x] sp)
    (bnd : ∀ (s : Shared) (u : Value), BindsTo s fd ⟨[u], []⟩ [(x, u)])
    (hsp : ∀ H : Hp, Only H → SqL K H a (ns.map V.int) → sp [.ref a] H (fun v _ => v = .bl true) E0) :
    codeAny (model P w) callerA (.call (.ref fa) ⟨[.ref a], []⟩)
      (fun r s' => r = .ok (.ret (.bool true)) ∧ OldK s.heap s'.heap ∧ s'.os = s.os ∧ AllBare s'.gens) s := by
  have rv := vals_ints hi
  have core : ∀ H : Hp, Only H → SqL K H a (ns.map V.int) → HOk P w H s.heap →
      (∀ b u, H b = some u → b = a) → ((∃ u, H a = some u) → K.lookup a = none) →
      codeAny (model P w) callerA (.call (.ref fa) ⟨[.ref a], []⟩)
        (fun r s' => r = .ok (.ret (.bool true)) ∧ OldK s.heap s'.heap ∧ s'.os = s.os ∧ AllBare s'.gens) s := by
    intro H hO hS hok hA hK
    have dictFree : ∀ {b : Addr} {o : Obj} {es : Array DictEntry} {ep : Nat},
        s.heap.get? b = some o → o.data = .dict es ep → H b = none := by
      intro b o es ep e d
      cases q : H b with
      | none => rfl
      | some u =>
        rw [hA b u q, ha] at e
        cases e
        exact nomatch d
    have nsK : ∀ {b : Addr} {m : Str → Option Value}, s.heap.Ns b m → (hidT s.heap H).Ns b m := by
      rintro b m ⟨o, es, ep, e, d, r⟩
      exact ⟨o, es, ep, hidT_get e (dictFree e d), d, r⟩
    have hKb : K.In (hidT s.heap H) := by
      intro b o e
      refine hidT_get (KX b o e) ?_
      cases q : H b with
      | none => rfl
      | some u =>
        have eb := hA b u q
        rw [eb] at e q
        rw [hK ⟨u, q⟩] at e
        cases e
    have hM : Mod K mg (hidT s.heap H) :=
      ⟨hKb, nsK hns, ⟨mb, nsK hb, hbb⟩, let ⟨mc, h1, h2⟩ := nl; ⟨mc, nsK h1, h2⟩⟩
    have e0 : Env0 P w K mg (hidT s.heap H) callerA [] s H :=
      ⟨rfl, hM, fun b o e => of_hidT e, Nat.le_of_eq (hidT_size _ _), trivial, fun b z => (nomatch z), hok, .of_eq hg⟩
    refine codeAny_mono ((F _ hKb (nsK hns)).goes callerA [] s H ⟨[.ref a], []⟩ [.ref a] [.ref a] _ _ hr rfl
      e0 (bnd s (.ref a)) (.cons rfl .nil) (hsp H hO hS)) fun r s' h => ?_
    match r, h with
    | .error e, h => exact False.elim h
    | .ok .next, h => exact False.elim h
    | .ok .brk, h => exact False.elim h
    | .ok .cont, h => exact False.elim h
    | .ok (.ret u), h =>
      obtain ⟨v, H', os, bare, un, hok', r', q⟩ := h
      obtain rfl : v = .bl true := q
      obtain rfl : u = Value.bool true := r'
      refine ⟨rfl, OldK.of_keep fun b o e => ?_, os, bare⟩
      rcases hO b with z | ⟨ob, xs, z⟩
      · exact un.keep b o e z (fun m => (nomatch m)) (fun m => (nomatch m))
      · have z2 := un.frzs b ob _ z
        have e1 := (hok b _ z).1
        have e2 := (hok' b _ z2).1
        rw [e] at e1
        cases e1
        exact e2
  cases hk : K.lookup a with
  | some o =>
    have e := KX a o hk
    rw [ha] at e
    cases e
    refine core (fun _ => none) (fun _ => .inl rfl) (.inr ⟨_, vs.toArray, _, hk, rfl, rfl, rfl, ?_, by simpa using rv⟩)
      (fun b u z => (nomatch z)) (fun b u z => (nomatch z)) fun ⟨u, z⟩ => (nomatch z)
    rw [List.size_toArray, hi.length]
    exact hl
  | none =>
    let ob : Obj := { cls := .type "list", data := .seq vs.toArray }
    let G : Hp := fun b => if b = a then some (.frz ob (.lst (ns.map V.int))) else none
    have at_a : G a = some (.frz ob (.lst (ns.map V.int))) := if_pos rfl
    have off : ∀ b, b ≠ a → G b = none := fun b z => if_neg z
    refine core G (fun b => ?_) (.inl (.inr ⟨ob, at_a⟩)) (fun b u z => ?_) (fun b u z => ?_) fun _ => hk
    · by_cases hb : b = a
      · exact .inr ⟨ob, _, by rw [hb]; exact at_a⟩
      · exact .inl (off b hb)
    · by_cases hb : b = a
      · rw [hb, at_a] at z
        cases z
        rw [hb]
        exact ⟨ha, by rw [List.length_map]; exact hl, vs, _, rv, ha⟩
      · rw [off b hb] at z
        cases z
    · by_cases hb : b = a
      · exact hb
      · rw [off b hb] at z
        cases z

theorem walk_ofG {l : PySem.W.OpenLaw} {n k : Nat} {q : Program} {loose : List Str}
    {XP : (Str → Option Value) → Heap → Prop} {YP : World → Heap → Prop} {d : DefRec}
    {K : Params → PySem.W.Frag} {sp : World → Sp} {x : Str}
    (hn : l.most = some n) (hn2 : n ≤ sizeLine) (hdf : d.params.defaults = []) (hr : Room k callerA)
    (hY : ∀ (w : World) (h : Heap), YP w h → (K w.params).In h)
    (F : ∀ (w : World) (mg : Str → Option Value) (fa : Addr) (h : Heap), (K w.params).In h →
      h.Ns mainGlobals mg → mg d.name = some (.ref fa) →
      ∃ fd : FuncData, (∀ (s : Shared) (u : Value), BindsTo s fd ⟨[u], []⟩ [(x, u)]) ∧
        ∀ base : Heap, (K w.params).In base → base.Ns mainGlobals mg →
          FnG l.prog w (K w.params) mg base k fa fd [x] (sp w))
    (hsp : ∀ (w : World) (H : Hp) (a : Addr) (ns : List Int), ns.length ≤ n → Only H →
      SqL (K w.params) H a (ns.map V.int) → sp w [.ref a] H (fun v _ => v = .bl true) E0) :
    PySem.W.WalkO q loose XP YP l.row.toRowW d [] (fun f vs => PySem.call f vs) := by
  refine Att.attach_call hn hdf fun w s₀ s₁ mg mb fa o pm cd doc a vs ns G Y ho hd hcd hmg hobj hints hlen hg => ?_
  obtain ⟨fd, hb, hF⟩ := F w mg fa _ (hY w _ Y) G.T.g hmg
  exact law_callG (hY w _ Y) G.T.g G.T.b G.T.builtins G.T.nolimit hg hobj hints
    (Nat.le_trans hlen hn2) hr hF hb fun H hO hS => hsp w H a ns hlen hO hS
end TL
namespace TL
open PySem PySem.Spec PyProof.Rows L2

/-! ### repr of data -/
structure Shows (d : PyData) : Prop where
  can : d.showable = true
  nod : d.hasDict = false
  deep : d.depth ≤ 60
  fits : d.shown.length ≤ sizeLine
def rRepr (K : PySem.W.Frag) : List V → Hp → VK → Prop := fun xs H Q =>
  ∃ (y : V) (d : PyData), xs = [y] ∧ Dp K H y d ∧ Shows d ∧ Q (.str d.shown) H
section
variable {X : Cx}
theorem call_reprD (gd : X.A.guards = some []) (hu : X.A.units + 64 < cLine) :
    CallR X (.builtin "repr") (rRepr X.K) := by
  intro pins s σ H xs us Q I r h
  obtain ⟨y, d, rfl, hd, sh, q⟩ := h
  cases r with
  | cons r1 r2 =>
    rename_i u us'
    cases r2
    obtain ⟨as, rd⟩ := Dp.reads I d y u hd r1
    have big : ∀ a, u = Value.ref a → wpAny (model X.prog X.w) X.A (call (.builtin "repr") [u]) (EP X pins σ Q) X.xe s := by
      intro a e
      subst e
      refine repr_of_reads' rd sh.can (fun z => ?_) gd (by have := sh.deep; omega) (fun _ _ e => e) (fun h' u tk hk => ?_) sh.fits
      · rw [sh.nod] at z
        cases z
      · exact ⟨.str d.shown, H, I.kept (t' := tk) hk, ⟨u, rfl⟩, q⟩
    cases hd with
    | non =>
      obtain rfl : u = Value.none := r1
      rw [PyData.shown_none] at q
      exact PySem.P.repr_of_none ⟨.str _, H, I.tok _, ⟨_, rfl⟩, q⟩
    | bl b =>
      obtain rfl : u = Value.bool b := r1
      rw [PyData.shown_bool] at q
      exact PySem.P.repr_of_bool ⟨.str _, H, I.tok _, ⟨_, rfl⟩, q⟩
    | int i =>
      obtain ⟨t, rfl⟩ := r1
      rw [PyData.shown_int] at q
      exact PySem.P.repr_of_int (by have := sh.can; simpa [PyData.showable] using this) ⟨.str _, H, I.tok _, ⟨_, rfl⟩, q⟩
    | str x =>
      obtain ⟨t, rfl⟩ := r1
      have z := sh.fits
      rw [PyData.shown_str] at q z
      exact PySem.P.repr_of_str ⟨.str _, H, I.tok _, ⟨_, rfl⟩, q⟩ z
    | lst hs ha => exact big _ r1
    | tup hs ha => exact big _ r1
end

/-! ### t[::-1], t a tuple -/
section
variable {prog : Program} {w : World} {A : Around} {E : Value → Shared → Prop} {s : Shared}
theorem fm_congr {α β : Type} (f g : α → Option β) : ∀ l : List α, (∀ x ∈ l, f x = g x) → l.filterMap f = l.filterMap g
  | [], _ => rfl
  | a :: r, h => by
    rw [List.filterMap_cons, List.filterMap_cons, h a List.mem_cons_self, fm_congr f g r fun x hx => h x (List.mem_cons_of_mem _ hx)]
theorem places_back (n : Nat) : Builtin.Slice.slicePlaces ((n : Int) - 1) (-1) (-1) = n := by
  unfold Builtin.Slice.slicePlaces
  rw [if_neg (by decide)]
  by_cases h : (n : Int) - 1 > -1
  · rw [if_pos h]
    have e : ((n : Int) - 1 - -1 - 1) / (- -1) + 1 = (n : Int) := by
      rw [show (- -1 : Int) = 1 by decide, Int.ediv_one]
      omega
    rw [e]
    exact Int.toNat_natCast n
  · rw [if_neg h]
    show (0 : Nat) = n
    omega
theorem pick_back (xs : Array Value) :
    ((List.range xs.size).filterMap fun (m : Nat) => xs[((xs.size : Int) - 1 + (m : Int) * (-1)).toNat]?).toArray = xs.toList.reverse.toArray := by
  have e : (List.range xs.size).filterMap (fun (m : Nat) => xs[((xs.size : Int) - 1 + (m : Int) * (-1)).toNat]?)
      = ((List.range xs.size).map fun k => xs.size - 1 - k).filterMap (xs[·]?) := by
    rw [List.filterMap_map]
    refine fm_congr _ _ _ fun m hm => ?_
    have := List.mem_range.mp hm
    have q : ((xs.size : Int) - 1 + (m : Int) * (-1)).toNat = xs.size - 1 - m := by omega
    rw [q]
    rfl
  rw [e, PySem.W.krv_range, List.filterMap_reverse, PySem.W.krv_all]
theorem back_applied {sl : Addr} {vk : Value} {n : Nat} {Q : Int × Int × Nat → Shared → Prop}
    (hs : s.heap.IsSliceOf sl .none .none vk) (pk : IsPart vk (some (-1)))
    (h : Q ((n : Int) - 1, -1, n) s) : wpAny (model prog w) A (Builtin.Slice.sliceApplied (.ref sl) (pure (n : Int))) Q E s := by
  obtain ⟨os, hos, hcs, hds⟩ := id hs
  unfold Builtin.Slice.sliceApplied Builtin.Slice.sliceFields
  refine wpAny_bind (wpAny_bind (wpAny_field hos hds (x := .none) rfl (wpAny_bind (wpAny_field hos hds (x := .none) rfl
    (wpAny_bind (wpAny_field hos hds (x := vk) rfl (wpAny_pure ?_)))))))
  refine wpAny_bind (HT.slicePart_ pk ?_)
  show wpAny _ _ (if ((-1 : Int) == 0) = true then _ else _) _ _ s
  rw [if_neg (by decide)]
  refine wpAny_bind (slicePart_none (wpAny_bind (slicePart_none (wpAny_bind (wpAny_pure ?_)))))
  show wpAny _ _ (pure ((n : Int) - 1, (-1 : Int), Builtin.Slice.slicePlaces ((n : Int) - 1) (-1) (-1))) _ _ s
  rw [places_back]
  exact wpAny_pure h
theorem getItem_back {t sl : Addr} {items : Array Value} {vk : Value} {Q : Value → Shared → Prop}
    (ht : IsTup s.heap t items) (hs : s.heap.IsSliceOf sl .none .none vk) (pk : IsPart vk (some (-1)))
    (h : Q (.ref s.heap.objs.size) { s with heap := s.heap.push { cls := .type "tuple", data := .seq items.toList.reverse.toArray } })
    (hsz : items.size ≤ sizeLine) : wpAny (model prog w) A (getItem (.ref t) (.ref sl)) Q E s := by
  have hz : sizeOk (.seq items.toList.reverse.toArray) := by
    show items.toList.reverse.toArray.size ≤ sizeLine
    rw [List.size_toArray, List.length_reverse, Array.length_toList]
    exact hsz
  obtain ⟨os, hos, hcs, hds⟩ := id hs
  have hTs : s.TypeIs (.ref sl) "slice" := ⟨os, hos, hcs⟩
  unfold getItem
  try with_reducible refine wpAny_holding ?_
  first | refine wpAny_bind (wpAny_pure ?_) | skip
  refine wpAny_bind (wpAny_sequenceKey ht.typeIs (by decide) ?_)
  refine wpAny_bind (wpAny_callSpecial?_slot (name := Str.ofString "__getitem__") ht.typeIs
    PyProof.Rows.slot_tuple_getitem (wpAny_call_entry PyProof.Rows.slot_tuple_getitem ht.typeIs
      entry_tuple_getitem ?_ (args_tuple_getitem _ _)))
  show wpAny _ _ (Builtin.Tuple.tupleItemsOf (.ref t) >>= _) _ _ s
  refine wpAny_bind (tupleItemsOf_ ht (wpAny_bind (wpAny_typeOf hTs ?_)))
  rw [if_pos (by decide)]
  refine wpAny_bind (back_applied hs pk ?_)
  show wpAny _ _ (if (((items.size : Int) - 1 == 0) && ((-1 : Int) == 1) && (items.size == items.size)) = true then _ else _) _ _ s
  rw [if_neg (by rw [show ((-1 : Int) == 1) = false by decide, Bool.and_false, Bool.false_and]; decide), pick_back]
  first
    | exact wpAny_bind (m := Builtin.Tuple.tupleExact _) (wpAny_newObj_type (wpAny_pure ⟨_, rfl, wpAny_pure h⟩) hz)
    | exact wpAny_bind (m := Builtin.Tuple.tupleExact _) (wpAny_newObj_type (wpAny_bind (wpAny_pure (wpAny_pure ⟨_, rfl, wpAny_pure h⟩))) hz)
    | exact wpAny_bind (wpAny_bind (m := Builtin.Tuple.tupleExact _) (wpAny_newObj_type (wpAny_pure (wpAny_pure ⟨_, rfl, wpAny_pure h⟩)) hz))
    | exact wpAny_bind (wpAny_bind (m := Builtin.Tuple.tupleExact _) (wpAny_newObj_type (wpAny_pure ⟨_, rfl, wpAny_pure h⟩) hz))
end
section
variable {X : Cx}
def tRevT (K : PySem.W.Frag) (te : TE) : TE := fun σ H Q => te σ H fun x H1 =>
  ∃ a xs, x = .ref a ∧ SqT K H1 a xs ∧ ∀ p, H1 p = none → Q (.ref p) (upd H1 p (.tup xs.reverse))
theorem pe_revT {e : Expr} {te : TE} {k : Nat} {p1 p2 p3 pos : Pos} (he : PE X e te) :
    PE X (.Subscript e (.Slice none none (some (.UnaryOp .USub (.Constant (.int 1) k p1) p2)) p3) pos) (tRevT X.K te) := by
  refine ⟨fun pins s σ H Q I h => Subscript_ (thn (he.run pins s σ H _ I h) fun v s1 ⟨x, H1, I1, r1, q1⟩ => ?_)⟩
  obtain ⟨a, xs, ex, hx, q⟩ := q1
  subst ex
  cases r1
  have hst : PO X (some (.UnaryOp .USub (.Constant (.int 1) k p1) p2))
    (tPart (tUn (rU fun i => .int (-i)) (tC (.int 1)))) := po_some (pe_un un_neg pe_int)
  refine wpAny_Slice ?_
  rw [evalPart_none]
  refine wpAny_pure ?_
  refine wpAny_pure ?_
  refine thn (hst.run pins s1 σ H1 (fun o H4 => o = some (-1) ∧ H4 = H1) I1 ⟨1, rfl, -1, rfl, rfl, rfl⟩)
    fun vk s4 ⟨o, H4, I4, pk, eo, e4⟩ => ?_
  subst eo e4
  have I5 : Inv X pins σ H4 { s4 with heap := s4.heap.push { cls := .type "slice", data := .fields #[.none, .none, vk] } } :=
    I4.kept (t' := s4.toks) fun b ob q => Heap.get?_push_of_some _ q
  obtain ⟨its, r, ht, hz⟩ := I5.tuple hx
  have hlen := r.length
  refine tail_any (ops := [.ref a, .ref s4.heap.objs.size]) ht.typeIs PyProof.Rows.slot_tuple_getitem.lookup ?_ (by with_unfolding_all rfl)
  refine getItem_back ht (Heap.IsSliceOf.new _ .none .none vk) pk ?_ (by rw [List.size_toArray]; omega)
  refine ⟨.ref _, _, I5.laid (t' := s4.toks) (o := .tup xs.reverse) (fun b ob q => Heap.get?_push_of_some _ q) (Nat.le_refl _) ?_,
    rfl, q _ (I5.hok.fresh (Nat.le_refl _))⟩
  exact ⟨by rw [List.length_reverse]; exact hz, _, r.reverse, IsTup.new _ _⟩
end
/-! ### the rules with the written part as a letter of its own (within comprehensions) -/
section
variable {X : Cx}
theorem ixTK (K : PySem.W.Frag) (h : X.K = K := by rfl) : IxR X (rIxT K) := h ▸ ix_tup
theorem ixLK (K : PySem.W.Frag) (h : X.K = K := by rfl) : IxR X (rIxL K) := h ▸ ix_list
def rLenK (K : PySem.W.Frag) : List V → Hp → VK → Prop := fun xs H Q => ∃ p ys, xs = [.ref p] ∧ (SqL K H p ys ∨ SqT K H p ys) ∧ Q (.int ys.length) H
theorem lenK (K : PySem.W.Frag) (h : X.K = K := by rfl) : CallR X (.builtin "len") (rLenK K) := h ▸ call_len_seq
def rTupK (K : PySem.W.Frag) : List V → Hp → VK → Prop := fun xs H Q => ∃ p ys, xs = [.ref p] ∧
  ((SqL K H p ys ∧ ∀ l, H l = none → Q (.ref l) (upd H l (.tup ys))) ∨ (SqT K H p ys ∧ Q (.ref p) H))
theorem tupleK (K : PySem.W.Frag) (h : X.K = K := by rfl) : CallR X (.type "tuple") (rTupK K) := h ▸ call_tuple_of
theorem catAK (K : PySem.W.Frag) (h : X.K = K := by rfl) : OpR X (binaryOp .Add) (rCatA K) := h ▸ op_catA
theorem revTK (K : PySem.W.Frag) {e : Expr} {te : TE} {k : Nat} {p1 p2 p3 pos : Pos} (he : PE X e te) (h : X.K = K := by rfl) :
    PE X (.Subscript e (.Slice none none (some (.UnaryOp .USub (.Constant (.int 1) k p1) p2)) p3) pos) (tRevT K te) := h ▸ pe_revT he
theorem reprK (K : PySem.W.Frag) (gd : X.A.guards = some []) (hu : X.A.units + 64 < cLine) (h : X.K = K := by rfl) :
    CallR X (.builtin "repr") (rRepr K) := h ▸ call_reprD gd hu
end
end TL
namespace TL
open PySem PySem.Spec PyProof.Rows L2

/-! ### heaps -/
theorem same_upd {H : Hp} {p : Addr} {o : HO} (h : H p = none) : Same H (upd H p o) := fun b x e => by
  rw [upd_ne (ne_of_none e h)]
  exact e
theorem same_at {H : Hp} {p : Addr} {o : HO} (_ : H p = none) : upd H p o p = some o := upd_same
theorem Same.tup {K : PySem.W.Frag} {H H' : Hp} {a : Addr} {xs : List V} (e : Same H H') (h : SqT K H a xs) : SqT K H' a xs := by
  rcases h with (h | ⟨o, h⟩) | h
  · exact .inl (.inl (e _ _ h))
  · exact .inl (.inr ⟨o, e _ _ h⟩)
  · exact .inr h
/-- every tuple stays -/
def KT (K : PySem.W.Frag) (H H' : Hp) : Prop := ∀ a xs, SqT K H a xs → SqT K H' a xs
theorem KT.refl {K : PySem.W.Frag} {H : Hp} : KT K H H := fun _ _ h => h
theorem KT.trans {K : PySem.W.Frag} {H H1 H2 : Hp} (a : KT K H H1) (b : KT K H1 H2) : KT K H H2 := fun c o h => b c o (a c o h)
theorem Same.kt {K : PySem.W.Frag} {H H' : Hp} (e : Same H H') : KT K H H' := fun _ _ h => Same.tup e h
/-- all but what stands at d and l is as it was -/
def Fm (d l : Addr) (H H' : Hp) : Prop := ∀ b o, b ≠ d → b ≠ l → H b = some o → H' b = some o
theorem Fm.refl {d l : Addr} {H : Hp} : Fm d l H H := fun _ _ _ _ h => h
theorem Fm.trans {d l : Addr} {H H1 H2 : Hp} (a : Fm d l H H1) (b : Fm d l H1 H2) : Fm d l H H2 :=
  fun c o h1 h2 h => b c o h1 h2 (a c o h1 h2 h)
theorem Same.fm {d l : Addr} {H H' : Hp} (e : Same H H') : Fm d l H H' := fun b o _ _ h => e b o h

/-! ### the deck: a list of cells and a count -/
def Deck (H : Hp) (d l : Addr) (n : Nat) : Prop := ∃ (c : Nat) (ns : List Int), c ≤ n ∧
  H d = some (.lst [.ref l, .int (c : Int)]) ∧ H l = some (.lst (ns.map V.int)) ∧ (∀ z ∈ ns, 0 ≤ z) ∧ ns.length ≤ 63
theorem Deck.ne {H : Hp} {d l : Addr} {n : Nat} (h : Deck H d l n) : d ≠ l := by
  obtain ⟨c, ns, _, h1, h2, _⟩ := h
  intro e
  rw [e, h2] at h1
  cases ns with
  | nil => cases h1
  | cons z r => cases h1
theorem Deck.same {H H' : Hp} {d l : Addr} {n : Nat} (h : Deck H d l n) (e : Same H H') : Deck H' d l n := by
  obtain ⟨c, ns, hc, h1, h2, h3⟩ := h
  exact ⟨c, ns, hc, e _ _ h1, e _ _ h2, h3⟩
theorem Deck.le {H : Hp} {d l : Addr} {n m : Nat} (h : Deck H d l n) (e : n ≤ m) : Deck H d l m := by
  obtain ⟨c, ns, hc, h3⟩ := h
  exact ⟨c, ns, Nat.le_trans hc e, h3⟩
theorem Fm.kt {K : PySem.W.Frag} {H H' : Hp} {d l : Addr} {n : Nat} (e : Fm d l H H') (h : Deck H d l n) : KT K H H' := by
  obtain ⟨c, ns, hc, h1, h2, h3⟩ := h
  intro a xs q
  rcases q with (q | ⟨o, q⟩) | q
  · refine .inl (.inl (e _ _ (fun z => ?_) (fun z => ?_) q))
    · rw [z, h1] at q; cases q
    · rw [z, h2] at q; cases q
  · refine .inl (.inr ⟨o, e _ _ (fun z => ?_) (fun z => ?_) q⟩)
    · rw [z, h1] at q; cases q
    · rw [z, h2] at q; cases q
  · exact .inr q
/-- a tracked thing that is neither -/
theorem Deck.off {H : Hp} {d l a : Addr} {n : Nat} (h : Deck H d l n) (ha : H a = none) : a ≠ d ∧ a ≠ l := by
  obtain ⟨c, ns, hc, h1, h2, h3⟩ := h
  exact ⟨fun z => (by rw [z, h1] at ha; cases ha), fun z => (by rw [z, h2] at ha; cases ha)⟩

theorem Deck.put {H : Hp} {d l a : Addr} {n : Nat} {o : HO} (h : Deck H d l n) (h1 : a ≠ d) (h2 : a ≠ l) : Deck (upd H a o) d l n := by
  obtain ⟨c, ns, hc, e1, e2, h3⟩ := h
  exact ⟨c, ns, hc, by rw [upd_ne h1.symm]; exact e1, by rw [upd_ne h2.symm]; exact e2, h3⟩
theorem kt_lst {K : PySem.W.Frag} {H : Hp} {a : Addr} {xs ys : List V} (h : H a = some (.lst xs)) : KT K H (upd H a (.lst ys)) := by
  intro b zs q
  rcases q with (q | ⟨o, q⟩) | q
  · refine .inl (.inl ?_)
    rw [upd_ne fun z => by rw [z, h] at q; cases q]
    exact q
  · refine .inl (.inr ⟨o, ?_⟩)
    rw [upd_ne fun z => by rw [z, h] at q; cases q]
    exact q
  · exact .inr q

/-! ### data -/
mutual
def only : PyData → Bool
  | .none => true
  | .bool _ => true
  | .int _ => true
  | .str _ => true
  | .tuple xs => onlyAll xs
  | .list _ => false
  | .dict _ => false
def onlyAll : List PyData → Bool
  | [] => true
  | x :: xs => only x && onlyAll xs
end
section
variable {K : PySem.W.Frag} {H H' : Hp}
mutual
theorem Dp.kt (e : KT K H H') : ∀ {v : V} {d : PyData}, Dp K H v d → only d = true → Dp K H' v d
  | _, _, .non, _ => .non
  | _, _, .bl b, _ => .bl b
  | _, _, .int i, _ => .int i
  | _, _, .str x, _ => .str x
  | _, _, .lst h a, o => by
    unfold only at o
    cases o
  | _, _, .tup h a, o => .tup (e _ _ h) (DpAll.kt e a (by unfold only at o; exact o))
theorem DpAll.kt (e : KT K H H') : ∀ {v : List V} {d : List PyData}, DpAll K H v d → onlyAll d = true → DpAll K H' v d
  | _, _, .nil, _ => .nil
  | _, _, .cons h a, o => by
    unfold onlyAll at o
    rw [Bool.and_eq_true] at o
    exact .cons (Dp.kt e h o.1) (DpAll.kt e a o.2)
end
mutual
theorem Dp.same (e : Same H H') : ∀ {v : V} {d : PyData}, Dp K H v d → Dp K H' v d
  | _, _, .non => .non
  | _, _, .bl b => .bl b
  | _, _, .int i => .int i
  | _, _, .str x => .str x
  | _, _, .lst h a => .lst (e.seq h) (DpAll.same e a)
  | _, _, .tup h a => .tup (Same.tup e h) (DpAll.same e a)
theorem DpAll.same (e : Same H H') : ∀ {v : List V} {d : List PyData}, DpAll K H v d → DpAll K H' v d
  | _, _, .nil => .nil
  | _, _, .cons h a => .cons (Dp.same e h) (DpAll.same e a)
end
theorem DpAll.length : ∀ {v : List V} {d : List PyData}, DpAll K H v d → v.length = d.length
  | _, _, .nil => rfl
  | _, _, .cons _ a => congrArg (· + 1) (DpAll.length a)
theorem DpAll.append : ∀ {v u : List V} {d e : List PyData}, DpAll K H v d → DpAll K H u e → DpAll K H (v ++ u) (d ++ e)
  | _, _, _, _, .nil, b => b
  | _, _, _, _, .cons h a, b => .cons h (DpAll.append a b)
theorem DpAll.reverse : ∀ {v : List V} {d : List PyData}, DpAll K H v d → DpAll K H v.reverse d.reverse
  | _, _, .nil => .nil
  | _, _, .cons h a => by
    rw [List.reverse_cons, List.reverse_cons]
    exact DpAll.append (DpAll.reverse a) (.cons h .nil)
theorem DpAll.get : ∀ {v : List V} {d : List PyData} {i : Nat} {x : V}, DpAll K H v d → v[i]? = some x → ∃ z, d[i]? = some z ∧ Dp K H x z
  | _, _, _, _, .nil, q => by simp at q
  | _, _, 0, _, .cons h a, q => by
    rw [List.getElem?_cons_zero] at q
    cases q
    exact ⟨_, List.getElem?_cons_zero, h⟩
  | _, _, i + 1, _, .cons h a, q => by
    rw [List.getElem?_cons_succ] at q
    obtain ⟨z, e, r⟩ := DpAll.get a q
    exact ⟨z, by rw [List.getElem?_cons_succ]; exact e, r⟩
theorem Dp.tupI {v : V} {ds : List PyData} (h : Dp K H v (.tuple ds)) : ∃ a xs, v = .ref a ∧ SqT K H a xs ∧ DpAll K H xs ds := by
  cases h with
  | tup h a => exact ⟨_, _, rfl, h, a⟩
theorem Dp.lstI {v : V} {ds : List PyData} (h : Dp K H v (.list ds)) : ∃ a xs, v = .ref a ∧ SqL K H a xs ∧ DpAll K H xs ds := by
  cases h with
  | lst h a => exact ⟨_, _, rfl, h, a⟩
theorem Dp.intI {v : V} {i : Int} (h : Dp K H v (.int i)) : v = .int i := by
  cases h
  rfl
theorem DpAll.ints : ∀ {xs : List V} {ns : List Int}, DpAll K H xs (ns.map .int) → xs = ns.map V.int
  | [], [], _ => rfl
  | _ :: _, n :: ns, .cons h a => by
    rw [Dp.intI h, DpAll.ints a]
    rfl
theorem DpAll.of_ints : ∀ (ns : List Int), DpAll K H (ns.map V.int) (ns.map .int)
  | [] => .nil
  | n :: ns => .cons (.int n) (DpAll.of_ints ns)
end

/-! ### pairs of ints -/
def prD (p : Int × Int) : PyData := .tuple [.int p.1, .int p.2]
def prsD (ps : List (Int × Int)) : PyData := .tuple (ps.map prD)
theorem only_pr (p : Int × Int) : only (prD p) = true := by simp [prD, only, onlyAll]
theorem only_prs : ∀ ps : List (Int × Int), onlyAll (ps.map prD) = true
  | [] => by simp [onlyAll]
  | p :: ps => by simp [onlyAll, only_pr p, only_prs ps]
theorem only_prsD (ps : List (Int × Int)) : only (prsD ps) = true := by
  unfold prsD only
  exact only_prs ps
section
variable {K : PySem.W.Frag} {H : Hp}
theorem Dp.prI {v : V} {p : Int × Int} (h : Dp K H v (prD p)) : ∃ a, v = .ref a ∧ SqT K H a [.int p.1, .int p.2] := by
  obtain ⟨a, xs, e, h1, h2⟩ := Dp.tupI h
  have q : xs = [p.1, p.2].map V.int := DpAll.ints (ns := [p.1, p.2]) h2
  subst q
  exact ⟨a, e, h1⟩
theorem Dp.pr {a : Addr} {i j : Int} (h : SqT K H a [.int i, .int j]) : Dp K H (.ref a) (prD (i, j)) :=
  .tup h (.cons (.int i) (.cons (.int j) .nil))
end

/-! ### showing small data -/
def sm (i : Int) : Prop := -1000 ≤ i ∧ i ≤ 1000
theorem sm_log {i : Int} (h : sm i) : i.natAbs.log2 < 10 := by
  have h2 : i.natAbs < 2 ^ 10 := by
    unfold sm at h
    omega
  exact PySem.Flt.log2_lt_of (by decide) h2
structure Sm (d : PyData) (n k : Nat) : Prop where
  can : d.showable = true
  nod : d.hasDict = false
  deep : d.depth ≤ k
  short : d.leavesShort 13 = true
  light : d.weight ≤ n
theorem Sm.shows {d : PyData} {n k : Nat} (h : Sm d n k) (hn : n ≤ 1000000) (hk : k ≤ 60) : Shows d :=
  ⟨h.can, h.nod, Nat.le_trans h.deep hk, PyData.shown_fits (by decide) (by decide) h.short (Nat.le_trans h.light (by omega))⟩
theorem Sm.le {d : PyData} {n k m j : Nat} (h : Sm d n k) (hn : n ≤ m) (hk : k ≤ j) : Sm d m j :=
  ⟨h.can, h.nod, Nat.le_trans h.deep hk, h.short, Nat.le_trans h.light hn⟩
theorem Sm.none : Sm .none 0 0 := ⟨rfl, rfl, Nat.le_refl _, rfl, Nat.le_refl _⟩
theorem Sm.bool (b : Bool) : Sm (.bool b) 0 0 := ⟨rfl, rfl, Nat.le_refl _, rfl, Nat.le_refl _⟩
theorem Sm.int {i : Int} (h : sm i) : Sm (.int i) 10 0 := by
  have h1 := sm_log h
  refine ⟨?_, by simp [PyData.hasDict], by simp [PyData.depth], ?_, ?_⟩
  · simp only [PyData.showable]
    exact decide_eq_true (by omega)
  · simp only [PyData.leavesShort]
    exact decide_eq_true (PyData.shown_int_le (by unfold sm at h; omega))
  · simp only [PyData.weight]
    split <;> omega
structure SmA (ds : List PyData) (n k : Nat) : Prop where
  can : PyData.showableAll ds = true
  nod : PyData.hasDictAll ds = false
  deep : PyData.depthAll ds ≤ k
  short : PyData.leavesShortAll 13 ds = true
  light : PyData.weightAll ds ≤ ds.length * (n + 1)
theorem SmA.of {n k : Nat} : ∀ {ds : List PyData}, (∀ d ∈ ds, Sm d n k) → SmA ds n k
  | [], _ => ⟨rfl, rfl, by simp [PyData.depthAll], rfl, by simp [PyData.weightAll]⟩
  | d :: ds, h => by
    have h1 := h d List.mem_cons_self
    have h2 := SmA.of (n := n) (k := k) fun e he => h e (List.mem_cons_of_mem _ he)
    refine ⟨?_, ?_, ?_, ?_, ?_⟩
    · simp only [PyData.showableAll, h1.can, h2.can, Bool.and_self]
    · simp only [PyData.hasDictAll, h1.nod, h2.nod, Bool.or_self]
    · simp only [PyData.depthAll]
      exact Nat.max_le.mpr ⟨h1.deep, h2.deep⟩
    · simp only [PyData.leavesShortAll, h1.short, h2.short, Bool.and_self]
    · have a := h1.light
      have b := h2.light
      simp only [PyData.weightAll, List.length_cons, Nat.add_mul, Nat.one_mul]
      omega
theorem Sm.tup {n k m : Nat} {ds : List PyData} (h : ∀ d ∈ ds, Sm d n k) (hm : ds.length ≤ m) : Sm (.tuple ds) (m * (n + 1)) (k + 1) := by
  have q := SmA.of h
  have z : ds.length * (n + 1) ≤ m * (n + 1) := Nat.mul_le_mul_right _ hm
  refine ⟨?_, ?_, ?_, ?_, ?_⟩
  · simp only [PyData.showable]; exact q.can
  · simp only [PyData.hasDict]; exact q.nod
  · simp only [PyData.depth]; have := q.deep; omega
  · simp only [PyData.leavesShort]; exact q.short
  · simp only [PyData.weight]; exact Nat.le_trans q.light z
theorem Sm.lst {n k m : Nat} {ds : List PyData} (h : ∀ d ∈ ds, Sm d n k) (hm : ds.length ≤ m) : Sm (.list ds) (m * (n + 1)) (k + 1) := by
  have q := SmA.of h
  have z : ds.length * (n + 1) ≤ m * (n + 1) := Nat.mul_le_mul_right _ hm
  refine ⟨?_, ?_, ?_, ?_, ?_⟩
  · simp only [PyData.showable]; exact q.can
  · simp only [PyData.hasDict]; exact q.nod
  · simp only [PyData.depth]; have := q.deep; omega
  · simp only [PyData.leavesShort]; exact q.short
  · simp only [PyData.weight]; exact Nat.le_trans q.light z
def smP (p : Int × Int) : Prop := sm p.1 ∧ sm p.2
theorem Sm.pr {p : Int × Int} (h : smP p) : Sm (prD p) 22 1 :=
  Sm.tup (n := 10) (k := 0) (m := 2) (fun d hd => by
    rcases List.mem_cons.mp hd with rfl | hd
    · exact Sm.int h.1
    · rcases List.mem_cons.mp hd with rfl | hd
      · exact Sm.int h.2
      · exact nomatch hd) (Nat.le_refl _)
theorem Sm.prs {ps : List (Int × Int)} {m : Nat} (h : ∀ p ∈ ps, smP p) (hm : ps.length ≤ m) : Sm (prsD ps) (m * 23) 2 :=
  Sm.tup (n := 22) (k := 1) (m := m) (fun d hd => by
    obtain ⟨p, hp, rfl⟩ := List.mem_map.mp hd
    exact Sm.pr (h p hp)) (by rw [List.length_map]; exact hm)
end TL
namespace TL
open PySem PySem.Spec PyProof.Rows L2
theorem yesI {σ : L2.St} {H : Hp} {Q : Bool → Hp → Prop} (h : Q true H) : tYes σ H Q := h
/-- what a comprehension asks of its turns -/
def LcGoal (J : It) (g : TG) (tt : TT) (te : TE) (vs : List Nat) (σ : L2.St) (H1 : Hp) (D : Addr) (Qd : Hp → Prop) : Prop :=
  ∃ W : Nat → Nat → Hp → Prop, (∃ m, W 0 m (upd H1 D (.lst []))) ∧ ∀ i m H, W i m H →
    (J.stop i H ∧ Qd H) ∨
    (J.go i H ∧ ∃ Nx : Hp → Prop, (∀ H', Nx H' → ∃ m', m' < m ∧ W (i + 1) m' H') ∧
      ∀ x H', J.yld i H x H' → g x (wipe σ vs) H' fun σ2 H2 =>
        wipe σ2 vs = wipe σ vs ∧ tt σ2 H2 fun b H3 =>
          if b = true then
            te σ2 H3 fun y H4 => ∃ acc, H4 D = some (.lst acc) ∧ acc.length < sizeLine ∧ Nx (upd H4 D (.lst (acc ++ [y])))
          else Nx H3)
/-- by the number of turns -/
theorem lc_by {J : It} {g : TG} {tt : TT} {te : TE} {vs : List Nat} {σ : L2.St} {H1 : Hp} {D : Addr} {Qd : Hp → Prop} (n : Nat)
    (Pv : Nat → Hp → Prop) (h0 : Pv 0 (upd H1 D (.lst []))) (hgo : ∀ i H, i < n → Pv i H → J.go i H) (hst : ∀ H, Pv n H → J.stop n H)
    (hs : ∀ i x H H', i < n → Pv i H → J.yld i H x H' → g x (wipe σ vs) H' fun σ2 H2 =>
      wipe σ2 vs = wipe σ vs ∧ tt σ2 H2 fun b H3 =>
        if b = true then
          te σ2 H3 fun y H4 => ∃ acc, H4 D = some (.lst acc) ∧ acc.length < sizeLine ∧ Pv (i + 1) (upd H4 D (.lst (acc ++ [y])))
        else Pv (i + 1) H3)
    (hd : ∀ H, Pv n H → Qd H) : LcGoal J g tt te vs σ H1 D Qd := by
  refine ⟨fun i m H => m = n - i ∧ i ≤ n ∧ Pv i H, ⟨n, rfl, Nat.zero_le _, h0⟩, fun i m H hW => ?_⟩
  obtain ⟨e, hi, p⟩ := hW
  by_cases hlt : i < n
  · refine .inr ⟨hgo i H hlt p, Pv (i + 1), fun H' p' => ⟨n - (i + 1), by omega, rfl, hlt, p'⟩, fun x H' y => hs i x H H' hlt p y⟩
  · obtain rfl : i = n := by omega
    exact .inl ⟨hst H p, hd H p⟩
/-- over reversed(a tuple) -/
theorem lc_revT {K : PySem.W.Frag} {a : Addr} {xs : List V} {g : TG} {tt : TT} {te : TE} {vs : List Nat} {σ : L2.St} {H1 : Hp} {D : Addr} {Qd : Hp → Prop}
    (Pv : Nat → Hp → Prop) (h0 : Pv 0 (upd H1 D (.lst []))) (hl : ∀ i H, Pv i H → SqT K H a xs)
    (hs : ∀ i x H, i < xs.length → xs[xs.length - 1 - i]? = some x → Pv i H → g x (wipe σ vs) H fun σ2 H2 =>
      wipe σ2 vs = wipe σ vs ∧ tt σ2 H2 fun b H3 =>
        if b = true then
          te σ2 H3 fun y H4 => ∃ acc, H4 D = some (.lst acc) ∧ acc.length < sizeLine ∧ Pv (i + 1) (upd H4 D (.lst (acc ++ [y])))
        else Pv (i + 1) H3)
    (hd : ∀ H, Pv xs.length H → Qd H) : LcGoal (RT.ItvT K a xs.length) g tt te vs σ H1 D Qd := by
  refine lc_by xs.length Pv h0 (fun i H hi p => ?_) (fun H p => Nat.le_refl _) (fun i x H H' hi p y => ?_) hd
  · have hj : xs.length - 1 - i < xs.length := by omega
    exact ⟨hi, xs, _, hl i H p, List.getElem?_eq_getElem hj⟩
  · obtain ⟨e, hy⟩ := y
    subst e
    exact hs i x _ hi (hy xs (hl i _ p)) p
end TL
namespace TL
open PySem PySem.Spec PyProof.Rows L2
/-! ### sorted, of any alike data -/
theorem each_of {K : PySem.W.Frag} {H : Hp} {β : Type} (enc : β → PyData) : ∀ {xs : List V} {us : List Value} {bs : List β},
    Vals xs us → DpAll K H xs (bs.map enc) → PySem.W.EachIs (fun (u : Value) (b : β) => ∃ x, RelV x u ∧ Dp K H x (enc b)) us bs
  | _, _, [], .nil, _ => .nil
  | _, _, _ :: _, .nil, h => nomatch h
  | _, _, [], .cons _ _, h => nomatch h
  | _, _, b :: bs, .cons r t, .cons h a => .cons ⟨_, r, h⟩ (each_of enc t a)
theorem of_each {K : PySem.W.Frag} {H : Hp} {β : Type} (enc : β → PyData) : ∀ {us : List Value} {bs : List β},
    PySem.W.EachIs (fun (u : Value) (b : β) => ∃ x, RelV x u ∧ Dp K H x (enc b)) us bs → ∃ ys, Vals ys us ∧ DpAll K H ys (bs.map enc)
  | _, _, .nil => ⟨[], .nil, .nil⟩
  | _, _, .cons ⟨x, r, h⟩ t => by
    obtain ⟨ys, a, b⟩ := of_each enc t
    exact ⟨x :: ys, .cons r a, .cons h b⟩
@[irreducible] def rSortD (K : PySem.W.Frag) : List V → Hp → VK → Prop := fun vs H Q => ∃ (β : Type) (enc : β → PyData) (bs : List β) (a : Addr) (xs : List V),
  vs = [.ref a] ∧ SqL K H a xs ∧ DpAll K H xs (bs.map enc) ∧ PySem.W.AllAlike (bs.map enc) ∧ PySem.W.Sortable (bs.map enc) ∧ (∀ b ∈ bs, (enc b).depth ≤ 50) ∧
  ∀ p ys, H p = none → DpAll K H ys ((bs.mergeSort (PySem.W.dataLe false enc)).map enc) → Q (.ref p) (upd H p (.lst ys))
section
variable {X : Cx}
theorem sorted_D (hu : X.A.units + 64 < cLine) : CallR X (.builtin "sorted") (rSortD X.K) := by
  intro pins s σ H vs us Q I r h
  unfold rSortD at h
  obtain ⟨β, enc, bs, a, xs, rfl, hs, ha, al, so, dp, q⟩ := h
  cases r with
  | cons r1 r2 =>
    cases r2
    rename_i u
    obtain rfl : u = Value.ref a := r1
    obtain ⟨its, rv, hl, hz⟩ := I.list hs
    have e1 := each_of enc rv ha
    have lb : xs.length = bs.length := by rw [DpAll.length ha, List.length_map]
    have e2 : PySem.W.EachIs (fun v b => ∃ as, Reads s.heap v (enc b) as) its bs :=
      e1.mono fun u b ⟨x, rx, hx⟩ => Dp.reads I _ x u hx rx
    refine PySem.W.sorted_data hl.isList e1 e2 al so (by omega) (fun b hb => by have := dp b hb; omega) fun out hlen eo => ?_
    obtain ⟨ys, ry, dy⟩ := of_each enc eo
    obtain ⟨c, hc⟩ := PyProof.Rows.sortedAll_at s.heap its out.toArray
    have fr : H (s.heap.objs.size + 1) = none := I.hok.fresh (Nat.le_succ _)
    refine ⟨.ref (s.heap.objs.size + 1), upd H (s.heap.objs.size + 1) (.lst ys), I.laid (t' := s.toks) (fun _ _ => PyProof.Rows.sortedAll_old) (Nat.le_succ _) ?_, rfl, q _ ys fr dy⟩
    exact ⟨by have := ry.length; omega, out, c, ry, hc⟩
/-! ### in, of data -/
def rInDt (K : PySem.W.Frag) (neg : Bool) : R2 := fun x y H Q => ∃ d ds, Dp K H x d ∧ (Dp K H y (.list ds) ∨ Dp K H y (.tuple ds)) ∧
  PyData.canLayAll0 ds = true ∧ d.canLay0 = true ∧ d.depth ≤ 50 ∧ Q (.bl (if neg then !(ds.any fun z => PyData.eqv z d) else ds.any fun z => PyData.eqv z d)) H
theorem room_in {d : PyData} {ds : List PyData} {u : Nat} (h : d.depth ≤ 50) (hu : u + 64 < cLine) : u + 1 + min (PyData.depthAll ds) d.depth < cLine := by
  have : min (PyData.depthAll ds) d.depth ≤ 50 := Nat.le_trans (Nat.min_le_right _ _) h
  omega
theorem op_inDt (hu : X.A.units + 64 < cLine) : OpR X (compareOp .In) (rInDt X.K false) := by
  intro pins s σ H x y v u Q I rx ry h
  obtain ⟨d, ds, hd, he, c1, c2, dp, q⟩ := h
  obtain ⟨as, r1⟩ := Dp.reads I d x v hd rx
  rcases he with he | he
  · obtain ⟨bs, r2⟩ := Dp.reads I _ y u he ry
    exact SeqAt.in_list_reads r2 r1 c1 c2 (room_in dp hu) ⟨.bl _, H, I, rfl, q⟩
  · obtain ⟨bs, r2⟩ := Dp.reads I _ y u he ry
    exact SeqAt.in_tuple_reads r2 r1 c1 c2 (room_in dp hu) ⟨.bl _, H, I, rfl, q⟩
theorem op_notInDt (hu : X.A.units + 64 < cLine) : OpR X (compareOp .NotIn) (rInDt X.K true) := by
  intro pins s σ H x y v u Q I rx ry h
  obtain ⟨d, ds, hd, he, c1, c2, dp, q⟩ := h
  obtain ⟨as, r1⟩ := Dp.reads I d x v hd rx
  rcases he with he | he
  · obtain ⟨bs, r2⟩ := Dp.reads I _ y u he ry
    exact SeqAt.notIn_list_reads r2 r1 c1 c2 (room_in dp hu) ⟨.bl _, H, I, rfl, q⟩
  · obtain ⟨bs, r2⟩ := Dp.reads I _ y u he ry
    exact SeqAt.notIn_tuple_reads r2 r1 c1 c2 (room_in dp hu) ⟨.bl _, H, I, rfl, q⟩
/-! ### the written part as a letter -/
theorem sortK (K : PySem.W.Frag) (hu : X.A.units + 64 < cLine) (h : X.K = K := by rfl) : CallR X (.builtin "sorted") (rSortD K) := h ▸ sorted_D hu
theorem inDK (K : PySem.W.Frag) (hu : X.A.units + 64 < cLine) (h : X.K = K := by rfl) : OpR X (compareOp .In) (rInDt K false) := h ▸ op_inDt hu
theorem notInDK (K : PySem.W.Frag) (hu : X.A.units + 64 < cLine) (h : X.K = K := by rfl) : OpR X (compareOp .NotIn) (rInDt K true) := h ▸ op_notInDt hu
theorem inK (K : PySem.W.Frag) (h : X.K = K := by rfl) : OpR X (compareOp .In) (rIn K false) := h ▸ op_in_seq
theorem notInK (K : PySem.W.Frag) (h : X.K = K := by rfl) : OpR X (compareOp .NotIn) (rIn K true) := h ▸ op_notIn_seq
theorem eqDK (K : PySem.W.Frag) (hu : X.A.units + 64 < cLine) (h : X.K = K := by rfl) : OpR X (compareOp .Eq) (rEqD K) := h ▸ op_eqD hu
theorem neDK (K : PySem.W.Frag) (hu : X.A.units + 64 < cLine) (h : X.K = K := by rfl) : OpR X (compareOp .NotEq) (rNeD K) := h ▸ op_neD hu
theorem anyK (K : PySem.W.Frag) (hc : X.calm = true) (h : X.K = K := by rfl) : CallR X (.builtin "any") (rAny K) := h ▸ cr_any hc
def rListK (K : PySem.W.Frag) : List V → Hp → VK → Prop := fun xs H Q => ∃ p ys, xs = [.ref p] ∧ (SqL K H p ys ∨ SqT K H p ys) ∧ ∀ l, H l = none → Q (.ref l) (upd H l (.lst ys))
theorem listK (K : PySem.W.Frag) (h : X.K = K := by rfl) : CallR X (.type "list") (rListK K) := h ▸ call_list_of
theorem slTK (K : PySem.W.Frag) (h : X.K = K := by rfl) : SlR X (rSlA K) := h ▸ sl_tupA
theorem slLK (K : PySem.W.Frag) (h : X.K = K := by rfl) : SlR X (rSlL K) := h ▸ sl_list
end
end TL
namespace TL
open PySem PySem.Spec PyProof.Rows L2
/-- a def of the text by its name, with its promise -/
structure Own (P : Program) (w : World) (K : PySem.W.Frag) (mg : Str → Option Value) (base : Heap)
    (x : Str) (k : Nat) (ps : List Str) (sp : Sp) : Prop where
  ex : ∃ (f : Addr) (fd : FuncData), FnOk P w K mg base CX0 k f fd ps sp ∧ mg x = some (.ref f) ∧
    PySem.W.keepIn K (.ref f) = true ∧ Binds K fd ps []
/-- .. that shows data -/
structure OwnG (P : Program) (w : World) (K : PySem.W.Frag) (mg : Str → Option Value) (base : Heap)
    (x : Str) (k : Nat) (ps : List Str) (sp : Sp) : Prop where
  ex : ∃ (f : Addr) (fd : FuncData), FnG P w K mg base k f fd ps sp ∧ mg x = some (.ref f) ∧
    PySem.W.keepIn K (.ref f) = true ∧ Binds K fd ps []
section
variable {X : Cx} {k : Nat} {ps : List Str} {sp : Sp} {x : Str} {p pos : Pos} {e : Expr} {es : List Expr} {t : TA}
theorem pe_own (O : Own X.prog X.w X.K X.mg X.base x k ps sp) (hr : Room k X.A) (hg : Gl X x) (ha : PA X (e :: es) t)
    (hdb : (x == ("__debug__" : Str)) = false := by decide)
    (he : starEach (e :: es) X.env = (false, eval e X.env) :: starEach es X.env := by rfl)
    (hpl : (backTo pos (starEach es X.env)).any (·.1) = false := by rfl) :
    PE X (.Call (.Name x p) (e :: es) [] pos) (tCall sp [] E0 t) := by
  obtain ⟨f, fd, F, hm, hk, hb⟩ := O.ex
  exact pe_call F hr hg hm hk hb .nil pass0 ha hdb he hpl
theorem pe_ownG (O : OwnG X.prog X.w X.K X.mg X.base x k ps sp) (hr : Room k X.A) (gd : X.A.guards = some []) (hg : Gl X x) (ha : PA X (e :: es) t)
    (hdb : (x == ("__debug__" : Str)) = false := by decide)
    (he : starEach (e :: es) X.env = (false, eval e X.env) :: starEach es X.env := by rfl)
    (hpl : (backTo pos (starEach es X.env)).any (·.1) = false := by rfl) :
    PE X (.Call (.Name x p) (e :: es) [] pos) (tCall sp [] E0 t) := by
  obtain ⟨f, fd, F, hm, hk, hb⟩ := O.ex
  exact pe_callG F hr gd hg hm hk hb ha hdb he hpl
theorem piTK (K : PySem.W.Frag) {tg a : Expr} {ta : TE} (ha : PE X a ta) (h : X.K = K := by rfl) : PI X tg a (iTup K ta) := h ▸ pi_tup ha
theorem piLK (K : PySem.W.Frag) {tg a : Expr} {ta : TE} (ha : PE X a ta) (h : X.K = K := by rfl) : PI X tg a (iList K ta) := h ▸ pi_list ha
theorem pgTK (K : PySem.W.Frag) {es : List Expr} {k : Nat} {t : TGs} {n : Nat} (h : PGs X es t) (hc : X.calm = true := by rfl) (hK : X.K = K := by rfl)
    (hn : (assignEach es X.env).length = n := by rfl) (hst : (assignEach es X.env).findIdx? (·.1) = none := by rfl) :
    PG X (.Tuple es k pos) (gTup K n t) := hK ▸ pg_tup hc h hn hst
theorem bmK (K : PySem.W.Frag) {o : Expr} {to : TE} {name : Str} {apos cpos : Pos} {T id : String}
    {r : V → List V → Hp → VK → Prop} (pa : PlainAttrs T) (slot : Slot T name id)
    (hty : typeOf (.builtin id) = pure (.type "method_descriptor")) (hm : MtR X id r) (ho : PE X o to)
    (ha : PA X (e :: es) t) (h : X.K = K := by rfl)
    (hbase : attributeBase o name X.env (eval o X.env) = eval o X.env := by rfl)
    (hfew : ((backTo cpos (starEach (e :: es) X.env)).all (fun x => !x.1)
        && (backToKw cpos (keywordEach [] X.env)).all (fun x => x.1.isSome)
        && decide ((e :: es).length + ([] : List Keyword).length
          + (if ([] : List Keyword).isEmpty then 0 else 1) < 30)) = true := by rfl)
    (hline : (apos.endLine == cpos.line) = true := by rfl)
    (hs : starEach (e :: es) X.env = (false, eval e X.env) :: starEach es X.env := by rfl)
    (hplain : (backTo cpos (starEach es X.env)).any (·.1) = false := by rfl) :
    PE X (.Call (.Attribute o name apos) (e :: es) [] cpos) (tBM K T r to t) :=
  h ▸ pe_bm pa slot hty hm ho ha hbase hfew hline hs hplain
theorem bm0K (K : PySem.W.Frag) {o : Expr} {to : TE} {name : Str} {apos cpos : Pos} {T id : String}
    {r : V → List V → Hp → VK → Prop} (pa : PlainAttrs T) (slot : Slot T name id)
    (hty : typeOf (.builtin id) = pure (.type "method_descriptor")) (hm : MtR X id r) (ho : PE X o to) (h : X.K = K := by rfl)
    (hbase : attributeBase o name X.env (eval o X.env) = eval o X.env := by rfl)
    (hline : (apos.endLine == cpos.line) = true := by rfl) :
    PE X (.Call (.Attribute o name apos) [] [] cpos) (tBM0 K T r to) := h ▸ pe_bm0 pa slot hty hm ho hbase hline
end
end TL
namespace TL
open PySem PySem.Spec PyProof.Rows L2
/-! ### sorting ints, pairs -/
theorem le_int_fun : PySem.W.dataLe false PyData.int = leI := by
  funext a b
  exact congrFun (congrFun (PySem.W.dataLe_int (β := Int) id) a) b
theorem le_pr_fun : PySem.W.dataLe false prD = leP := by
  funext p q
  exact congrFun (congrFun (PySem.W.dataLe_ii (β := Int × Int) Prod.fst Prod.snd) p) q
section
variable {K : PySem.W.Frag} {H : Hp} {Q : VK}
theorem sortInts {a : Addr} {ns : List Int} (hS : SqL K H a (ns.map V.int)) (q : ∀ p, H p = none → Q (.ref p) (upd H p (.lst ((srtI ns).map V.int)))) : rSortD K [.ref a] H Q := by
  unfold rSortD
  refine ⟨Int, PyData.int, ns, a, ns.map V.int, rfl, hS, DpAll.of_ints ns, ?_, .inr fun d hd => ?_, fun b _ => by simp [PyData.depth], fun p ys np dy => ?_⟩
  · intro d hd e he
    obtain ⟨x, _, rfl⟩ := List.mem_map.mp hd
    obtain ⟨y, _, rfl⟩ := List.mem_map.mp he
    simp [PySem.W.alike]
  · obtain ⟨x, _, rfl⟩ := List.mem_map.mp hd
    exact ⟨fun z => (nomatch z), fun _ z => (nomatch z)⟩
  · rw [le_int_fun] at dy
    have e := DpAll.ints dy
    subst e
    exact q p np
theorem sortPairs {a : Addr} {xs : List V} {ps : List (Int × Int)} (hS : SqL K H a xs) (hA : DpAll K H xs (ps.map prD))
    (q : ∀ p ys, H p = none → DpAll K H ys ((srtP ps).map prD) → Q (.ref p) (upd H p (.lst ys))) : rSortD K [.ref a] H Q := by
  unfold rSortD
  refine ⟨Int × Int, prD, ps, a, xs, rfl, hS, hA, ?_, .inl fun d hd => ?_, fun b _ => by simp [prD, PyData.depth, PyData.depthAll], fun p ys np dy => ?_⟩
  · intro d hd e he
    obtain ⟨x, _, rfl⟩ := List.mem_map.mp hd
    obtain ⟨y, _, rfl⟩ := List.mem_map.mp he
    simp [prD, PySem.W.alike, PySem.W.alikeAll]
  · obtain ⟨x, _, rfl⟩ := List.mem_map.mp hd
    exact ⟨_, _, rfl⟩
  · rw [le_pr_fun] at dy
    exact q p ys np dy
end
/-! ### forests as data -/
def forD (m : Nat) (es : List (Int × Int)) : PyData := .tuple [.int (m : Int), prsD es]
def intsD (ns : List Int) : PyData := .tuple (ns.map .int)
theorem only_ints : ∀ ns : List Int, onlyAll (ns.map .int) = true
  | [] => by simp [onlyAll]
  | n :: ns => by simp [onlyAll, only, only_ints ns]
theorem only_intsD (ns : List Int) : only (intsD ns) = true := by
  unfold intsD only
  exact only_ints ns
theorem only_forD (m : Nat) (es : List (Int × Int)) : only (forD m es) = true := by
  unfold forD
  simp [only, onlyAll, only_prsD]
section
variable {K : PySem.W.Frag} {H : Hp}
theorem Dp.forI {x : V} {m : Nat} {es : List (Int × Int)} (h : Dp K H x (forD m es)) :
    ∃ a b xs, x = .ref a ∧ SqT K H a [.int (m : Int), .ref b] ∧ SqT K H b xs ∧ DpAll K H xs (es.map prD) := by
  obtain ⟨a, xs, e, h1, h2⟩ := Dp.tupI h
  cases h2 with
  | cons ha hb =>
    cases hb with
    | cons hc hd =>
      cases hd
      obtain ⟨b, ys, e2, h3, h4⟩ := Dp.tupI hc
      subst e2
      rw [Dp.intI ha] at h1
      exact ⟨a, b, ys, e, h1, h3, h4⟩
theorem Dp.intsI {x : V} {ns : List Int} (h : Dp K H x (intsD ns)) : ∃ a, x = .ref a ∧ SqT K H a (ns.map V.int) := by
  obtain ⟨a, xs, e, h1, h2⟩ := Dp.tupI h
  have := DpAll.ints h2
  subst this
  exact ⟨a, e, h1⟩
theorem Dp.ints {a : Addr} {ns : List Int} (h : SqT K H a (ns.map V.int)) : Dp K H (.ref a) (intsD ns) := .tup h (DpAll.of_ints ns)
end
/-! ### equal data -/
theorem eqv_pr (a b : Int × Int) : PyData.eqv (prD a) (prD b) = decide (a = b) := by
  have e : PyData.eqv (prD a) (prD b) = ((a.1 == b.1) && ((a.2 == b.2) && true)) := by simp only [prD, PyData.eqv, PyData.eqvAll]
  rw [e]
  obtain ⟨x, y⟩ := a
  obtain ⟨u, v⟩ := b
  by_cases h1 : x = u
  · by_cases h2 : y = v
    · subst h1 h2; simp
    · have : ¬ ((x, y) : Int × Int) = (u, v) := fun z => h2 (Prod.mk.inj z).2
      rw [decide_eq_false this]; simp [h2]
  · have : ¬ ((x, y) : Int × Int) = (u, v) := fun z => h1 (Prod.mk.inj z).1
    rw [decide_eq_false this]; simp [h1]
theorem any_pr (p : Int × Int) : ∀ es : List (Int × Int), (es.map prD).any (fun z => PyData.eqv z (prD p)) = decide (p ∈ es)
  | [] => by simp
  | e :: es => by
    rw [List.map_cons, List.any_cons, any_pr p es, eqv_pr]
    by_cases h : e = p
    · subst h; simp
    · have h' : ¬ p = e := fun z => h z.symm
      simp [h, h']
theorem lay_pr (p : Int × Int) : (prD p).canLay0 = true := by simp [prD, PyData.canLay0, PyData.canLayAll0]
theorem lay_prs : ∀ es : List (Int × Int), PyData.canLayAll0 (es.map prD) = true
  | [] => by simp [PyData.canLayAll0]
  | e :: es => by simp [PyData.canLayAll0, lay_pr e, lay_prs es]
theorem dep_pr (p : Int × Int) : (prD p).depth ≤ 50 := by simp [prD, PyData.depth, PyData.depthAll]
theorem lay_ints : ∀ ns : List Int, PyData.canLayAll0 (ns.map PyData.int) = true
  | [] => by simp [PyData.canLayAll0]
  | n :: ns => by simp [PyData.canLayAll0, PyData.canLay0, lay_ints ns]
theorem dep_ints : ∀ ns : List Int, PyData.depthAll (ns.map PyData.int) = 0
  | [] => by simp [PyData.depthAll]
  | n :: ns => by simp [PyData.depthAll, PyData.depth, dep_ints ns]
theorem shaped_ints (ns : List Int) : SeqAt.shaped (.list (ns.map PyData.int)) = true := by
  unfold SeqAt.shaped
  simp only [PyData.canLay0, PyData.depth, lay_ints, dep_ints]
  decide
theorem eqv_nil (ns : List Int) : PyData.eqv (.list (ns.map PyData.int)) (.list []) = decide (ns = []) := by
  cases ns with
  | nil => simp [PyData.eqv, PyData.eqvAll]
  | cons n r => simp [PyData.eqv, PyData.eqvAll]
/-! ### ints in lists of ints -/
theorem flat_ints (ns : List Int) : (ns.map V.int).all flatV = true := by
  rw [List.all_map]
  exact List.all_eq_true.mpr fun _ _ => rfl
theorem inV_ints (x : Int) : ∀ ns : List Int, inV (.int x) (ns.map V.int) = decide (x ∈ ns)
  | [] => by simp [inV]
  | n :: ns => by
    have ih := inV_ints x ns
    unfold inV at ih ⊢
    rw [List.map_cons, List.any_cons, ih]
    show (decide (n = x) || decide (x ∈ ns)) = _
    by_cases h : n = x
    · subst h; simp
    · have h' : ¬ x = n := fun z => h z.symm
      simp [h, h']
/-! ### an if whose test is read for any end -/
theorem ifJ {c : TT} {t u : TS} {D : Ends} {σ : L2.St} {H : Hp} (R : Bool → Hp → Prop)
    (h1 : ∀ Q : Bool → Hp → Prop, (∀ b H1, R b H1 → Q b H1) → c σ H Q) (h2 : ∀ H1, R true H1 → t D σ H1) (h3 : ∀ H1, R false H1 → u D σ H1) : tIfS c t u D σ H := by
  refine h1 _ fun b H1 r => ?_
  cases b with
  | true => exact iteT (h2 H1 r)
  | false => exact iteF (h3 H1 r)
end TL
namespace TL
open PySem PySem.Spec PyProof.Rows L2
/-! ### comprehensions that leave all that was tracked as it was -/
theorem lc_gen {K : PySem.W.Frag} {J : It} {g : TG} {tt : TT} {te : TE} {vs : List Nat} {σ : L2.St} {H1 : Hp} {D : Addr} {Qd : Hp → Prop} {β : Type}
    (bs : List β) (σb : β → L2.St) (p : β → Bool) (d : β → PyData) (nD : H1 D = none)
    (hgo : ∀ j H', j < bs.length → Same H1 H' → J.go j H') (hst : ∀ H', Same H1 H' → J.stop bs.length H')
    (hg : ∀ j b x H' H'', bs[j]? = some b → Same H1 H' → J.yld j H' x H'' → H'' = H' ∧ ∀ Q : L2.St → Hp → Prop, Q (σb b) H' → g x (wipe σ vs) H' Q)
    (hw : ∀ b, wipe (σb b) vs = wipe σ vs)
    (ht : ∀ b ∈ bs, ∀ H' (Q : Bool → Hp → Prop), Same H1 H' → (∀ H2, Same H' H2 → Q (p b) H2) → tt (σb b) H' Q)
    (he : ∀ b ∈ bs, p b = true → ∀ H' (Q : VK), Same H1 H' → (∀ H2 y, Same H' H2 → Dp K H2 y (d b) → Q y H2) → te (σb b) H' Q)
    (ho : ∀ b, only (d b) = true) (hl : bs.length ≤ 1000)
    (hd : ∀ H' ys, Same H1 H' → H' D = some (.lst ys) → DpAll K H' ys ((bs.filter p).map d) → Qd H') : LcGoal J g tt te vs σ H1 D Qd := by
  have oa : ∀ l : List β, onlyAll (l.map d) = true := by
    intro l
    induction l with
    | nil => simp [onlyAll]
    | cons b l ih => simp [onlyAll, ho b, ih]
  refine lc_by bs.length (fun i H' => ∃ ys, Same H1 H' ∧ H' D = some (.lst ys) ∧ DpAll K H' ys (((bs.take i).filter p).map d) ∧ ys.length ≤ i) ?_ ?_ ?_ ?_ ?_
  · exact ⟨[], same_upd nD, upd_same, .nil, Nat.le_refl _⟩
  · rintro i H' hi ⟨ys, s, _⟩
    exact hgo i H' hi s
  · rintro H' ⟨ys, s, _⟩
    exact hst H' s
  · rintro i x H' H'' hi ⟨ys, s, eD, a, ln⟩ y
    obtain ⟨rfl, k⟩ := hg i bs[i] x H' H'' (List.getElem?_eq_getElem hi) s y
    have mb : bs[i] ∈ bs := List.getElem_mem hi
    have tk : bs.take (i + 1) = bs.take i ++ [bs[i]] := by rw [List.take_add_one, List.getElem?_eq_getElem hi]; rfl
    refine k _ ⟨hw _, ht _ mb _ _ s fun H2 s2 => ?_⟩
    by_cases hp : p bs[i] = true
    · rw [if_pos hp]
      refine he _ mb hp _ _ (s.trans s2) fun H3 z s3 dz => ?_
      have e3 := s3 _ _ (s2 _ _ eD)
      have kt : KT K H3 (upd H3 D (.lst (ys ++ [z]))) := kt_lst e3
      refine ⟨ys, e3, small1000 (by omega), ys ++ [z], ?_, upd_same, ?_, ?_⟩
      · intro b o e
        rw [upd_ne (ne_of_none e nD)]
        exact s3 _ _ (s2 _ _ (s _ _ e))
      · rw [tk, List.filter_append, List.map_append, List.filter_cons_of_pos hp]
        exact DpAll.append (DpAll.kt kt (DpAll.same (s2.trans s3) a) (oa _)) (.cons (Dp.kt kt dz (ho _)) .nil)
      · rw [List.length_append, List.length_singleton]
        omega
    · rw [if_neg hp]
      refine ⟨ys, s.trans s2, s2 _ _ eD, ?_, by omega⟩
      rw [tk, List.filter_append, List.filter_cons_of_neg hp, List.filter_nil, List.append_nil]
      exact DpAll.same s2 a
  · rintro H' ⟨ys, s, eD, a, _⟩
    rw [List.take_length] at a
    exact hd H' ys s eD a
section
variable {K : PySem.W.Frag} {tt : TT} {te : TE} {vs : List Nat} {σ : L2.St} {H1 : Hp} {D : Addr} {Qd : Hp → Prop}
/-- over a list of ints, the element any data -/
theorem lc_listI {a : Addr} {ns : List Int} {i : Nat} (p : Int → Bool) (d : Int → PyData) (nD : H1 D = none) (hS : SqL K H1 a (ns.map V.int))
    (hw : ∀ v, wipe ((wipe σ vs).set i (some v)) vs = wipe σ vs)
    (ht : ∀ o ∈ ns, ∀ H' (Q : Bool → Hp → Prop), Same H1 H' → (∀ H2, Same H' H2 → Q (p o) H2) → tt ((wipe σ vs).set i (some (.int o))) H' Q)
    (he : ∀ o ∈ ns, p o = true → ∀ H' (Q : VK), Same H1 H' → (∀ H2 y, Same H' H2 → Dp K H2 y (d o) → Q y H2) → te ((wipe σ vs).set i (some (.int o))) H' Q)
    (ho : ∀ o, only (d o) = true) (hl : ns.length ≤ 1000)
    (hd : ∀ H' ys, Same H1 H' → H' D = some (.lst ys) → DpAll K H' ys ((ns.filter p).map d) → Qd H') : LcGoal (Itl K a) (gName i) tt te vs σ H1 D Qd := by
  refine lc_gen ns (fun o => (wipe σ vs).set i (some (.int o))) p d nD (fun j H' hj s => ⟨_, _, s.seq hS, List.getElem?_eq_getElem (by rw [List.length_map]; exact hj)⟩)
    (fun H' s => ⟨_, s.seq hS, by rw [List.length_map]; exact Nat.le_refl _⟩) (fun j b x H' H'' hb s y => ?_) (fun b => hw _) ht he ho hl hd
  obtain ⟨e, hy⟩ := y
  have := hy _ (s.seq hS)
  rw [List.getElem?_map, hb] at this
  cases this
  exact ⟨e, fun Q q => q⟩
/-- over a tuple of ints -/
theorem lc_tupI {a : Addr} {ns : List Int} {i : Nat} (p : Int → Bool) (d : Int → PyData) (nD : H1 D = none) (hS : SqT K H1 a (ns.map V.int))
    (hw : ∀ v, wipe ((wipe σ vs).set i (some v)) vs = wipe σ vs)
    (ht : ∀ o ∈ ns, ∀ H' (Q : Bool → Hp → Prop), Same H1 H' → (∀ H2, Same H' H2 → Q (p o) H2) → tt ((wipe σ vs).set i (some (.int o))) H' Q)
    (he : ∀ o ∈ ns, p o = true → ∀ H' (Q : VK), Same H1 H' → (∀ H2 y, Same H' H2 → Dp K H2 y (d o) → Q y H2) → te ((wipe σ vs).set i (some (.int o))) H' Q)
    (ho : ∀ o, only (d o) = true) (hl : ns.length ≤ 1000)
    (hd : ∀ H' ys, Same H1 H' → H' D = some (.lst ys) → DpAll K H' ys ((ns.filter p).map d) → Qd H') : LcGoal (Itt K a) (gName i) tt te vs σ H1 D Qd := by
  refine lc_gen ns (fun o => (wipe σ vs).set i (some (.int o))) p d nD (fun j H' hj s => ⟨_, _, Same.tup s hS, List.getElem?_eq_getElem (by rw [List.length_map]; exact hj)⟩)
    (fun H' s => ⟨_, Same.tup s hS, by rw [List.length_map]; exact Nat.le_refl _⟩) (fun j b x H' H'' hb s y => ?_) (fun b => hw _) ht he ho hl hd
  obtain ⟨e, hy⟩ := y
  have := hy _ (Same.tup s hS)
  rw [List.getElem?_map, hb] at this
  cases this
  exact ⟨e, fun Q q => q⟩
/-- over range(m) -/
theorem lc_rng {m i : Nat} (p : Int → Bool) (d : Int → PyData) (nD : H1 D = none)
    (hw : ∀ v, wipe ((wipe σ vs).set i (some v)) vs = wipe σ vs)
    (ht : ∀ o ∈ rng m, ∀ H' (Q : Bool → Hp → Prop), Same H1 H' → (∀ H2, Same H' H2 → Q (p o) H2) → tt ((wipe σ vs).set i (some (.int o))) H' Q)
    (he : ∀ o ∈ rng m, p o = true → ∀ H' (Q : VK), Same H1 H' → (∀ H2 y, Same H' H2 → Dp K H2 y (d o) → Q y H2) → te ((wipe σ vs).set i (some (.int o))) H' Q)
    (ho : ∀ o, only (d o) = true) (hl : m ≤ 1000)
    (hd : ∀ H' ys, Same H1 H' → H' D = some (.lst ys) → DpAll K H' ys (((rng m).filter p).map d) → Qd H') : LcGoal (Itr 0 m) (gName i) tt te vs σ H1 D Qd := by
  refine lc_gen (rng m) (fun o => (wipe σ vs).set i (some (.int o))) p d nD (fun j H' hj s => by rw [rng_length] at hj; exact hj)
    (fun H' s => by rw [rng_length]; exact Nat.le_refl _) (fun j b x H' H'' hb s y => ?_) (fun b => hw _) ht he ho (by rw [rng_length]; exact hl) hd
  obtain ⟨e, hy⟩ := y
  unfold rng at hb
  rw [List.getElem?_map] at hb
  obtain ⟨z, hz, rfl⟩ := Option.map_eq_some_iff.mp hb
  obtain ⟨h1, rfl⟩ := List.getElem?_eq_some_iff.mp hz
  rw [List.getElem_range] at *
  subst hy
  refine ⟨e, fun Q q => ?_⟩
  show Q ((wipe σ vs).set i (some (.int (0 + (j : Int))))) H'
  rw [Int.zero_add]
  exact q
/-- over a tuple of pairs, the target two names -/
theorem lc_tupP {a : Addr} {xs : List V} {es : List (Int × Int)} {i j : Nat} (p : Int × Int → Bool) (d : Int × Int → PyData) (nD : H1 D = none) (hS : SqT K H1 a xs) (hA : DpAll K H1 xs (es.map prD))
    (hw : ∀ v u, wipe (((wipe σ vs).set i (some v)).set j (some u)) vs = wipe σ vs)
    (ht : ∀ o ∈ es, ∀ H' (Q : Bool → Hp → Prop), Same H1 H' → (∀ H2, Same H' H2 → Q (p o) H2) → tt (((wipe σ vs).set i (some (.int o.1))).set j (some (.int o.2))) H' Q)
    (he : ∀ o ∈ es, p o = true → ∀ H' (Q : VK), Same H1 H' → (∀ H2 y, Same H' H2 → Dp K H2 y (d o) → Q y H2) → te (((wipe σ vs).set i (some (.int o.1))).set j (some (.int o.2))) H' Q)
    (ho : ∀ o, only (d o) = true) (hl : es.length ≤ 1000)
    (hd : ∀ H' ys, Same H1 H' → H' D = some (.lst ys) → DpAll K H' ys ((es.filter p).map d) → Qd H') :
    LcGoal (Itt K a) (gTup K 2 (gCons (gName i) (gCons (gName j) gNil))) tt te vs σ H1 D Qd := by
  have xl : xs.length = es.length := by rw [DpAll.length hA, List.length_map]
  refine lc_gen es (fun o => ((wipe σ vs).set i (some (.int o.1))).set j (some (.int o.2))) p d nD (fun j H' hj s => ⟨_, _, Same.tup s hS, List.getElem?_eq_getElem (by rw [xl]; exact hj)⟩)
    (fun H' s => ⟨_, Same.tup s hS, by rw [xl]; exact Nat.le_refl _⟩) (fun k b x H' H'' hb s y => ?_) (fun b => hw _ _) ht he ho hl hd
  obtain ⟨e, hy⟩ := y
  obtain ⟨z, hz, dz⟩ := DpAll.get hA (hy _ (Same.tup s hS))
  rw [List.getElem?_map, hb] at hz
  cases hz
  obtain ⟨t, rfl, hT⟩ := Dp.prI (Dp.same s dz)
  exact ⟨e, fun Q q => ⟨t, _, rfl, hT, rfl, _, _, rfl, _, _, rfl, rfl, q⟩⟩
/-- over a list of pairs -/
theorem lc_listP {a : Addr} {xs : List V} {es : List (Int × Int)} {i j : Nat} (p : Int × Int → Bool) (d : Int × Int → PyData) (nD : H1 D = none) (hS : SqL K H1 a xs) (hA : DpAll K H1 xs (es.map prD))
    (hw : ∀ v u, wipe (((wipe σ vs).set i (some v)).set j (some u)) vs = wipe σ vs)
    (ht : ∀ o ∈ es, ∀ H' (Q : Bool → Hp → Prop), Same H1 H' → (∀ H2, Same H' H2 → Q (p o) H2) → tt (((wipe σ vs).set i (some (.int o.1))).set j (some (.int o.2))) H' Q)
    (he : ∀ o ∈ es, p o = true → ∀ H' (Q : VK), Same H1 H' → (∀ H2 y, Same H' H2 → Dp K H2 y (d o) → Q y H2) → te (((wipe σ vs).set i (some (.int o.1))).set j (some (.int o.2))) H' Q)
    (ho : ∀ o, only (d o) = true) (hl : es.length ≤ 1000)
    (hd : ∀ H' ys, Same H1 H' → H' D = some (.lst ys) → DpAll K H' ys ((es.filter p).map d) → Qd H') :
    LcGoal (Itl K a) (gTup K 2 (gCons (gName i) (gCons (gName j) gNil))) tt te vs σ H1 D Qd := by
  have xl : xs.length = es.length := by rw [DpAll.length hA, List.length_map]
  refine lc_gen es (fun o => ((wipe σ vs).set i (some (.int o.1))).set j (some (.int o.2))) p d nD (fun j H' hj s => ⟨_, _, s.seq hS, List.getElem?_eq_getElem (by rw [xl]; exact hj)⟩)
    (fun H' s => ⟨_, s.seq hS, by rw [xl]; exact Nat.le_refl _⟩) (fun k b x H' H'' hb s y => ?_) (fun b => hw _ _) ht he ho hl hd
  obtain ⟨e, hy⟩ := y
  obtain ⟨z, hz, dz⟩ := DpAll.get hA (hy _ (s.seq hS))
  rw [List.getElem?_map, hb] at hz
  cases hz
  obtain ⟨t, rfl, hT⟩ := Dp.prI (Dp.same s dz)
  exact ⟨e, fun Q q => ⟨t, _, rfl, hT, rfl, _, _, rfl, _, _, rfl, rfl, q⟩⟩
end
theorem only_int (i : Int) : only (.int i) = true := by simp [only]
theorem lst_ints {K : PySem.W.Frag} {H : Hp} {ys : List V} {ns : List Int} (h : DpAll K H ys (ns.map .int)) : ys = ns.map V.int := DpAll.ints h
end TL
namespace TL
open PySem PySem.Spec L2
/-! ### walks and the way back -/
def run (S : List Int) (ps : List (Int × Int)) : List Int := ps.foldl (fun S p => after S p.1 p.2) S
theorem run_snoc (S : List Int) (ps : List (Int × Int)) (p : Int × Int) : run S (ps ++ [p]) = after (run S ps) p.1 p.2 := by
  unfold run
  rw [List.foldl_append]
  rfl
theorem walk_run {m : Nat} {es : List (Int × Int)} : ∀ {ps : List (Int × Int)} {S T : List Int}, walk m es S ps = some T → T = run S ps
  | [], S, T, h => by cases h; rfl
  | p :: ps, S, T, h => by
    obtain ⟨_, h2⟩ := walk_cons h
    exact (walk_run h2 : T = run (after S p.1 p.2) ps)
theorem walk_push {m : Nat} {es : List (Int × Int)} {S : List Int} {p : Int × Int} {ps : List (Int × Int)} (h : p ∈ slidesP m es S) : walk m es S (p :: ps) = walk m es (after S p.1 p.2) ps := by
  show (if p ∈ slidesP m es S then _ else _) = _
  rw [if_pos h]
theorem walk_app {m : Nat} {es : List (Int × Int)} {qs : List (Int × Int)} : ∀ {ps : List (Int × Int)} {S T : List Int}, walk m es S ps = some T → walk m es S (ps ++ qs) = walk m es T qs
  | [], S, T, h => by cases h; rfl
  | p :: ps, S, T, h => by
    obtain ⟨h1, h2⟩ := walk_cons h
    rw [List.cons_append, walk_push h1]
    exact walk_app h2
theorem walk_some {m : Nat} {es : List (Int × Int)} {qs : List (Int × Int)} : ∀ {ps : List (Int × Int)} {S T : List Int}, walk m es S (ps ++ qs) = some T → walk m es S ps = some (run S ps) ∧ walk m es (run S ps) qs = some T
  | [], S, T, h => ⟨rfl, h⟩
  | p :: ps, S, T, h => by
    rw [List.cons_append] at h
    obtain ⟨h1, h2⟩ := walk_cons h
    rw [walk_push h1]
    exact walk_some h2
theorem walk_cut {m : Nat} {es : List (Int × Int)} {ps : List (Int × Int)} {S T : List Int} (n : Nat) (h : walk m es S ps = some T) : walk m es S (ps.take n) = some (run S (ps.take n)) ∧ walk m es (run S (ps.take n)) (ps.drop n) = some T := by
  rw [← List.take_append_drop n ps] at h
  exact walk_some h
theorem walk_set {m : Nat} {es : List (Int × Int)} (f : IsFor m es) : ∀ {ps : List (Int × Int)} {S T : List Int}, IsSet m es S → walk m es S ps = some T → IsSet m es T
  | [], S, T, i, h => by cases h; exact i
  | p :: ps, S, T, i, h => by
    obtain ⟨h1, h2⟩ := walk_cons h
    exact walk_set f (IsSet.slide f i h1) h2
theorem after_back {m : Nat} {es : List (Int × Int)} {S : List Int} (f : IsFor m es) (h : IsSet m es S) {u v : Int} (p : (u, v) ∈ slidesP m es S) : after (after S u v) v u = S := by
  obtain ⟨hu, hv, ho⟩ := mem_slidesP.mp p
  have nv := adj_free h hu hv
  have s1 := IsSet.slide f (IsSet.slide f h p) (slide_back f h p)
  refine asc_ext s1.asc h.asc fun z => ?_
  show z ∈ after (after S u v) v u ↔ _
  rw [mem_after, mem_after]
  constructor
  · rintro (⟨⟨a, b⟩ | a, c⟩ | a)
    · exact a
    · exact absurd a c
    · rw [a]; exact hu
  · intro hz
    by_cases e : z = u
    · exact .inr e
    · exact .inl ⟨.inl ⟨hz, e⟩, fun y => nv (y ▸ hz)⟩
def bk (ps : List (Int × Int)) : List (Int × Int) := (ps.map fun p => (p.2, p.1)).reverse
theorem bk_length (ps : List (Int × Int)) : (bk ps).length = ps.length := by
  unfold bk
  rw [List.length_reverse, List.length_map]
theorem walk_bk {m : Nat} {es : List (Int × Int)} (f : IsFor m es) : ∀ {ps : List (Int × Int)} {S T : List Int}, IsSet m es S → walk m es S ps = some T → walk m es T (bk ps) = some S
  | [], S, T, i, h => by cases h; rfl
  | p :: ps, S, T, i, h => by
    obtain ⟨h1, h2⟩ := walk_cons h
    have h3 := walk_bk f (IsSet.slide f i h1) h2
    have e : bk (p :: ps) = bk ps ++ [(p.2, p.1)] := by
      unfold bk
      rw [List.map_cons, List.reverse_cons]
    rw [e, walk_app h3, walk_push (slide_back f i (u := p.1) (v := p.2) h1)]
    show some (after (after S p.1 p.2) p.2 p.1) = _
    rw [after_back f i (u := p.1) (v := p.2) h1]
/-! ### the settings on the way -/
def sts (S : List Int) (ps : List (Int × Int)) : List (List Int) := (List.range (ps.length + 1)).map fun i => run S (ps.take i)
theorem sts_nil (S : List Int) : sts S [] = [S] := rfl
theorem sts_len (S : List Int) (ps : List (Int × Int)) : (sts S ps).length = ps.length + 1 := by
  unfold sts
  rw [List.length_map, List.length_range]
theorem sts_snoc (S : List Int) (ps : List (Int × Int)) (p : Int × Int) : sts S (ps ++ [p]) = sts S ps ++ [run S (ps ++ [p])] := by
  unfold sts
  rw [List.length_append, List.length_singleton, List.range_succ, List.map_append, List.map_singleton, List.take_of_length_le (l := ps ++ [p]) (by rw [List.length_append]; exact Nat.le_refl _)]
  congr 1
  refine List.map_congr_left fun i hi => ?_
  have := List.mem_range.mp hi
  rw [List.take_append_of_le_length (by omega)]
theorem sts_get {S : List Int} {ps : List (Int × Int)} {i : Nat} (h : i ≤ ps.length) : (sts S ps)[i]? = some (run S (ps.take i)) := by
  unfold sts
  rw [List.getElem?_map, List.getElem?_range (by omega)]
  rfl
theorem mem_sts {S R : List Int} {ps : List (Int × Int)} (h : R ∈ sts S ps) : ∃ i, i ≤ ps.length ∧ R = run S (ps.take i) := by
  unfold sts at h
  obtain ⟨i, hi, rfl⟩ := List.mem_map.mp h
  have := List.mem_range.mp hi
  exact ⟨i, by omega, rfl⟩
/-! ### lamps counted -/
def cnt (bs : List (List Int)) (S : List Int) : List Int := bs.map fun b => (((S.filter fun l => decide (l ∈ b)).length : Nat) : Int)
theorem cnt_slide {m : Nat} {es : List (Int × Int)} {f : Int → Int} {gs : List (Int × List Int)} {S : List Int} {u v : Int} {bs : List (List Int)} (isf : IsFor m es) (iss : IsSet m es S) (lab : Lab es (rng m) f) (gr : Grp f (rng m) gs)
    (hb : ∀ b ∈ bs, b ∈ gs.map (·.2)) (p : (u, v) ∈ slidesP m es S) : cnt bs (after S u v) = cnt bs S := by
  obtain ⟨hu, hv, ho⟩ := mem_slidesP.mp p
  obtain ⟨rv, av⟩ := mem_nearL.mp hv
  have ru := iss.rng u hu
  have mu : u ∈ rng m := mem_rng.mpr ru
  have mv : v ∈ rng m := mem_rng.mpr rv
  have e : f u = f v := by
    unfold ordP at av
    split at av
    · exact (lab.join _ av mv mu).symm
    · exact lab.join _ av mu mv
  unfold cnt
  refine List.map_congr_left fun b hb0 => ?_
  obtain ⟨g, hg, rfl⟩ := List.mem_map.mp (hb b hb0)
  have key : ∀ x, x ∈ g.2 ↔ x ∈ rng m ∧ f x = g.1 := fun x => by
    rw [(gr.is g hg).1, List.mem_filter, decide_eq_true_eq]
  have uv : u ∈ g.2 ↔ v ∈ g.2 := by
    rw [key, key, e]
    exact ⟨fun z => ⟨mv, z.2⟩, fun z => ⟨mu, z.2⟩⟩
  have h1 : (after S u v).Perm (S.map fun l => if l = u then v else l) := (srtI_perm _).trans (move_perm iss.asc.nodup hu).symm
  rw [(h1.filter _).length_eq, List.filter_map, List.length_map]
  congr 2
  refine List.filter_congr fun l _ => ?_
  show decide ((if l = u then v else l) ∈ g.2) = _
  split
  · rename_i h
    rw [h]
    exact decide_eq_decide.mpr uv.symm
  · rfl
theorem cnt_walk {m : Nat} {es : List (Int × Int)} {f : Int → Int} {gs : List (Int × List Int)} {bs : List (List Int)} (isf : IsFor m es) (lab : Lab es (rng m) f) (gr : Grp f (rng m) gs)
    (hb : ∀ b ∈ bs, b ∈ gs.map (·.2)) : ∀ {ps : List (Int × Int)} {S T : List Int}, IsSet m es S → walk m es S ps = some T → cnt bs T = cnt bs S
  | [], S, T, i, h => by cases h; rfl
  | p :: ps, S, T, i, h => by
    obtain ⟨h1, h2⟩ := walk_cons h
    rw [cnt_walk isf lab gr hb (IsSet.slide isf i h1) h2]
    exact cnt_slide isf i lab gr hb (u := p.1) (v := p.2) h1
/-! ### a comprehension within another -/
def env0 (sc : Scope) : Env := { scope := sc, locals := 0, globals := 0, cells := [], qual := "", func := none, code := .none, frame := default, builtins := default }
theorem blkOk_in {N : List Str} {scope0 scope : Scope} {own : List (Str × Nat)} {env : Env} {cl : List (Str × Addr)} {C : Addr} (sc : Scope) (e : env.scope = sc) (h : blkC N (relabel scope0 (env0 sc)) scope own = true) :
    BlkOk N (compEnvC scope0 cl C env).scope scope own := by
  subst e
  exact blkOk_by h
/-! ### comprehensions over lists and tuples of data -/
theorem zip_filter {α β γ : Type} {xs : List α} {bs : List β} (h : xs.length = bs.length) (p : β → Bool) (d : β → γ) : ((xs.zip bs).filter (fun q => p q.2)).map (fun q => d q.2) = (bs.filter p).map d := by
  have e : (xs.zip bs).map Prod.snd = bs := List.map_snd_zip (by omega)
  conv => rhs; rw [← e, List.filter_map, List.map_map]
  rfl
section
variable {K : PySem.W.Frag} {tt : TT} {te : TE} {vs : List Nat} {σ : L2.St} {H1 : Hp} {D : Addr} {Qd : Hp → Prop}
theorem lc_listD {a : Addr} {xs : List V} {β : Type} {bs : List β} {e : β → PyData} {i : Nat} (p : β → Bool) (d : β → PyData) (nD : H1 D = none) (hS : SqL K H1 a xs) (hA : DpAll K H1 xs (bs.map e))
    (hw : ∀ v, wipe ((wipe σ vs).set i (some v)) vs = wipe σ vs)
    (ht : ∀ x b, b ∈ bs → Dp K H1 x (e b) → ∀ H' (Q : Bool → Hp → Prop), Same H1 H' → (∀ H2, Same H' H2 → Q (p b) H2) → tt ((wipe σ vs).set i (some x)) H' Q)
    (he : ∀ x b, b ∈ bs → p b = true → Dp K H1 x (e b) → ∀ H' (Q : VK), Same H1 H' → (∀ H2 y, Same H' H2 → Dp K H2 y (d b) → Q y H2) → te ((wipe σ vs).set i (some x)) H' Q)
    (ho : ∀ o, only (d o) = true) (hl : bs.length ≤ 1000)
    (hd : ∀ H' ys, Same H1 H' → H' D = some (.lst ys) → DpAll K H' ys ((bs.filter p).map d) → Qd H') : LcGoal (Itl K a) (gName i) tt te vs σ H1 D Qd := by
  have xl : xs.length = bs.length := by rw [DpAll.length hA, List.length_map]
  have mem : ∀ q ∈ xs.zip bs, q.2 ∈ bs ∧ Dp K H1 q.1 (e q.2) := fun q hq => by
    obtain ⟨k, hk⟩ := List.getElem?_of_mem hq
    obtain ⟨h1, h2⟩ := List.getElem?_zip_eq_some.mp hk
    obtain ⟨z, hz, dz⟩ := DpAll.get hA h1
    rw [List.getElem?_map, h2] at hz
    cases hz
    exact ⟨List.mem_of_getElem? h2, dz⟩
  have zl : (xs.zip bs).length = xs.length := by rw [List.length_zip]; omega
  refine lc_gen (K := K) (xs.zip bs) (fun q => (wipe σ vs).set i (some q.1)) (fun q => p q.2) (fun q => d q.2) nD (fun j H' hj s => ⟨_, _, s.seq hS, List.getElem?_eq_getElem (by omega)⟩)
    (fun H' s => ⟨_, s.seq hS, by omega⟩) (fun j b x H' H'' hb s y => ?_) (fun b => hw _) (fun b hb H' Q s hQ => ht _ _ (mem b hb).1 (mem b hb).2 H' Q s hQ) (fun b hb hp H' Q s hQ => he _ _ (mem b hb).1 hp (mem b hb).2 H' Q s hQ) (fun o => ho _) (by omega)
    (fun H' ys s eD dy => hd H' ys s eD ?_)
  · obtain ⟨e1, hy⟩ := y
    have h1 := hy _ (s.seq hS)
    obtain ⟨h2, h3⟩ := List.getElem?_zip_eq_some.mp hb
    rw [h2] at h1
    cases h1
    exact ⟨e1, fun Q q => q⟩
  · rw [zip_filter xl] at dy
    exact dy
theorem lc_tupD {a : Addr} {xs : List V} {β : Type} {bs : List β} {e : β → PyData} {i : Nat} (p : β → Bool) (d : β → PyData) (nD : H1 D = none) (hS : SqT K H1 a xs) (hA : DpAll K H1 xs (bs.map e))
    (hw : ∀ v, wipe ((wipe σ vs).set i (some v)) vs = wipe σ vs)
    (ht : ∀ x b, b ∈ bs → Dp K H1 x (e b) → ∀ H' (Q : Bool → Hp → Prop), Same H1 H' → (∀ H2, Same H' H2 → Q (p b) H2) → tt ((wipe σ vs).set i (some x)) H' Q)
    (he : ∀ x b, b ∈ bs → p b = true → Dp K H1 x (e b) → ∀ H' (Q : VK), Same H1 H' → (∀ H2 y, Same H' H2 → Dp K H2 y (d b) → Q y H2) → te ((wipe σ vs).set i (some x)) H' Q)
    (ho : ∀ o, only (d o) = true) (hl : bs.length ≤ 1000)
    (hd : ∀ H' ys, Same H1 H' → H' D = some (.lst ys) → DpAll K H' ys ((bs.filter p).map d) → Qd H') : LcGoal (Itt K a) (gName i) tt te vs σ H1 D Qd := by
  have xl : xs.length = bs.length := by rw [DpAll.length hA, List.length_map]
  have mem : ∀ q ∈ xs.zip bs, q.2 ∈ bs ∧ Dp K H1 q.1 (e q.2) := fun q hq => by
    obtain ⟨k, hk⟩ := List.getElem?_of_mem hq
    obtain ⟨h1, h2⟩ := List.getElem?_zip_eq_some.mp hk
    obtain ⟨z, hz, dz⟩ := DpAll.get hA h1
    rw [List.getElem?_map, h2] at hz
    cases hz
    exact ⟨List.mem_of_getElem? h2, dz⟩
  have zl : (xs.zip bs).length = xs.length := by rw [List.length_zip]; omega
  refine lc_gen (K := K) (xs.zip bs) (fun q => (wipe σ vs).set i (some q.1)) (fun q => p q.2) (fun q => d q.2) nD (fun j H' hj s => ⟨_, _, Same.tup s hS, List.getElem?_eq_getElem (by omega)⟩)
    (fun H' s => ⟨_, Same.tup s hS, by omega⟩) (fun j b x H' H'' hb s y => ?_) (fun b => hw _) (fun b hb H' Q s hQ => ht _ _ (mem b hb).1 (mem b hb).2 H' Q s hQ) (fun b hb hp H' Q s hQ => he _ _ (mem b hb).1 hp (mem b hb).2 H' Q s hQ) (fun o => ho _) (by omega)
    (fun H' ys s eD dy => hd H' ys s eD ?_)
  · obtain ⟨e1, hy⟩ := y
    have h1 := hy _ (Same.tup s hS)
    obtain ⟨h2, h3⟩ := List.getElem?_zip_eq_some.mp hb
    rw [h2] at h1
    cases h1
    exact ⟨e1, fun Q q => q⟩
  · rw [zip_filter xl] at dy
    exact dy
end
end TL
namespace TL
open PySem PySem.Spec L2
/-! ### vertices joined by edges, found pass by pass -/
def stp (f : List Int) (p : Int × Int) : List Int := if decide (p.1 ∈ f) = decide (p.2 ∈ f) then f else f ++ [if p.1 ∈ f then p.2 else p.1]
def pas (E : List (Int × Int)) (f : List Int) : List Int := E.foldl stp f
def passes (E : List (Int × Int)) (v : Int) : Nat → List Int
  | 0 => [v]
  | n + 1 => pas E (passes E v n)
theorem filt_le {α : Type} {P Q : α → Bool} (h : ∀ x, P x = true → Q x = true) : ∀ l : List α, (l.filter P).length ≤ (l.filter Q).length
  | [] => Nat.le_refl _
  | a :: l => by
    have ih := filt_le h l
    rw [List.filter_cons, List.filter_cons]
    by_cases hp : P a = true
    · rw [if_pos hp, if_pos (h a hp), List.length_cons, List.length_cons]
      omega
    · rw [if_neg hp]
      split
      · rw [List.length_cons]
        omega
      · exact ih
theorem filt_lt {α : Type} {P Q : α → Bool} (h : ∀ x, P x = true → Q x = true) : ∀ {l : List α} {a : α}, a ∈ l → P a = false → Q a = true → (l.filter P).length < (l.filter Q).length
  | b :: l, a, ha, hp, hq => by
    rw [List.filter_cons, List.filter_cons]
    rcases List.mem_cons.mp ha with e | ha
    · rw [← e, if_neg (by rw [hp]; decide), if_pos hq, List.length_cons]
      have := filt_le h l
      omega
    · have ih := filt_lt h ha hp hq
      by_cases hb : P b = true
      · rw [if_pos hb, if_pos (h b hb), List.length_cons, List.length_cons]
        omega
      · rw [if_neg hb]
        split
        · rw [List.length_cons]
          omega
        · exact ih
def inn (f : List Int) (p : Int × Int) : Bool := decide (p.1 ∈ f) && decide (p.2 ∈ f)
structure Jn (E : List (Int × Int)) (v : Int) (f : List Int) : Prop where
  nd : f.Nodup
  has : v ∈ f
  conn : ∀ x ∈ f, Conn E v x
  cnt : f.length ≤ 1 + (E.filter (inn f)).length
theorem Jn.start (E : List (Int × Int)) (v : Int) : Jn E v [v] where
  nd := List.pairwise_singleton _ _
  has := List.mem_singleton.mpr rfl
  conn := fun x hx => by rw [List.mem_singleton.mp hx]; exact .refl _
  cnt := by rw [List.length_singleton]; omega
theorem Jn.put {E : List (Int × Int)} {v : Int} {f : List Int} {p : Int × Int} {y : Int} (h : Jn E v f) (hp : p ∈ E) (ny : y ∉ f) (cy : Conn E v y) (n : inn f p = false) (m : inn (f ++ [y]) p = true) : Jn E v (f ++ [y]) where
  nd := List.nodup_append.mpr ⟨h.nd, List.pairwise_singleton _ _, fun a ha b hb e => by rw [List.mem_singleton.mp hb] at e; exact ny (e ▸ ha)⟩
  has := List.mem_append_left _ h.has
  conn := fun x hx => (List.mem_append.mp hx).elim (h.conn x) fun z => by rw [List.mem_singleton.mp z]; exact cy
  cnt := by
    have := filt_lt (P := inn f) (Q := inn (f ++ [y])) (fun x hx => by
      unfold inn at hx ⊢
      rw [Bool.and_eq_true, decide_eq_true_eq, decide_eq_true_eq] at hx ⊢
      exact ⟨List.mem_append_left _ hx.1, List.mem_append_left _ hx.2⟩) hp n m
    have := h.cnt
    rw [List.length_append, List.length_singleton]
    omega
theorem Jn.stp {E : List (Int × Int)} {v : Int} {f : List Int} {p : Int × Int} (h : Jn E v f) (hp : p ∈ E) : Jn E v (TL.stp f p) := by
  unfold TL.stp
  split
  · exact h
  · rename_i ne
    by_cases h1 : p.1 ∈ f
    · have h2 : p.2 ∉ f := fun z => ne (by rw [decide_eq_true h1, decide_eq_true z])
      rw [if_pos h1]
      refine h.put hp h2 (.step (h.conn _ h1) (.inl hp)) ?_ ?_
      · unfold inn; rw [decide_eq_false h2, Bool.and_false]
      · unfold inn; rw [decide_eq_true (List.mem_append_left _ h1), decide_eq_true (List.mem_append_right _ (List.mem_singleton.mpr rfl))]; rfl
    · have h2 : p.2 ∈ f := Decidable.byContradiction fun z => ne (by rw [decide_eq_false h1, decide_eq_false z])
      rw [if_neg h1]
      refine h.put hp h1 (.step (h.conn _ h2) (.inr hp)) ?_ ?_
      · unfold inn; rw [decide_eq_false h1, Bool.false_and]
      · unfold inn; rw [decide_eq_true (List.mem_append_left _ h2), decide_eq_true (List.mem_append_right _ (List.mem_singleton.mpr rfl))]; rfl
theorem Jn.fold {E : List (Int × Int)} {v : Int} : ∀ {D : List (Int × Int)} {f : List Int}, (∀ p ∈ D, p ∈ E) → Jn E v f → Jn E v (D.foldl TL.stp f)
  | [], _, _, h => h
  | p :: D, f, s, h => Jn.fold (D := D) (fun q hq => s q (List.mem_cons_of_mem _ hq)) (h.stp (s p List.mem_cons_self))
theorem Jn.passes (E : List (Int × Int)) (v : Int) : ∀ n, Jn E v (TL.passes E v n)
  | 0 => Jn.start E v
  | n + 1 => Jn.fold (fun _ h => h) (Jn.passes E v n)
def Closed (E : List (Int × Int)) (f : List Int) : Prop := ∀ p ∈ E, decide (p.1 ∈ f) = decide (p.2 ∈ f)
theorem fold_grow : ∀ {D : List (Int × Int)} {f : List Int}, (D.foldl TL.stp f = f ∧ Closed D f) ∨ f.length + 1 ≤ (D.foldl TL.stp f).length
  | [], f => .inl ⟨rfl, fun _ h => nomatch h⟩
  | p :: D, f => by
    rw [List.foldl_cons]
    by_cases e : decide (p.1 ∈ f) = decide (p.2 ∈ f)
    · have es : TL.stp f p = f := by unfold TL.stp; rw [if_pos e]
      rw [es]
      rcases fold_grow (D := D) (f := f) with ⟨h1, h2⟩ | h
      · exact .inl ⟨h1, fun q hq => (List.mem_cons.mp hq).elim (fun z => z ▸ e) (h2 q)⟩
      · exact .inr h
    · have es : (TL.stp f p).length = f.length + 1 := by unfold TL.stp; rw [if_neg e, List.length_append, List.length_singleton]
      rcases fold_grow (D := D) (f := TL.stp f p) with ⟨h1, h2⟩ | h
      · rw [h1]
        exact .inr (by omega)
      · exact .inr (by omega)
theorem fold_closed : ∀ {D : List (Int × Int)} {f : List Int}, Closed D f → D.foldl TL.stp f = f
  | [], _, _ => rfl
  | p :: D, f, h => by
    have es : TL.stp f p = f := by unfold TL.stp; rw [if_pos (h p List.mem_cons_self)]
    rw [List.foldl_cons, es]
    exact fold_closed fun q hq => h q (List.mem_cons_of_mem _ hq)
theorem passes_grow (E : List (Int × Int)) (v : Int) : ∀ n, Closed E (passes E v n) ∨ n + 1 ≤ (passes E v n).length
  | 0 => .inr (Nat.le_refl _)
  | n + 1 => by
    rcases passes_grow E v n with h | h
    · left
      show Closed E (pas E (passes E v n))
      unfold pas
      rw [fold_closed h]
      exact h
    · rcases fold_grow (D := E) (f := passes E v n) with ⟨h1, h2⟩ | h3
      · left
        show Closed E (pas E (passes E v n))
        unfold pas
        rw [h1]
        exact h2
      · right
        show _ ≤ (pas E (passes E v n)).length
        unfold pas
        omega
theorem passes_closed (E : List (Int × Int)) (v : Int) : Closed E (passes E v E.length) := by
  rcases passes_grow E v E.length with h | h
  · exact h
  · have c := (Jn.passes E v E.length).cnt
    have l := List.length_filter_le (inn (passes E v E.length)) E
    have e : E.filter (inn (passes E v E.length)) = E := List.filter_sublist.eq_of_length (by omega)
    intro p hp
    rw [← e] at hp
    have h2 := (List.mem_filter.mp hp).2
    unfold inn at h2
    rw [Bool.and_eq_true] at h2
    rw [h2.1, h2.2]
theorem mem_passes (E : List (Int × Int)) (v x : Int) : x ∈ passes E v E.length ↔ Conn E v x := by
  refine ⟨(Jn.passes E v _).conn x, fun h => ?_⟩
  induction h with
  | refl => exact (Jn.passes E v _).has
  | step _ hp ih =>
    rcases hp with hp | hp
    · have := passes_closed E v _ hp
      exact of_decide_eq_true (by rw [← this]; exact decide_eq_true ih)
    · have := passes_closed E v _ hp
      exact of_decide_eq_true (by rw [this]; exact decide_eq_true ih)
/-! ### groups of one label -/
def within (es : List (Int × Int)) (ws : List Int) : List (Int × Int) := es.filter fun p => decide (p.1 ∈ ws) && decide (p.2 ∈ ws)
theorem mem_within {es : List (Int × Int)} {ws : List Int} {p : Int × Int} : p ∈ within es ws ↔ p ∈ es ∧ p.1 ∈ ws ∧ p.2 ∈ ws := by
  unfold within
  rw [List.mem_filter, Bool.and_eq_true, decide_eq_true_eq, decide_eq_true_eq]
theorem conn_lab {es : List (Int × Int)} {ws : List Int} {f : Int → Int} (h : Lab es ws f) {a b : Int} (ha : a ∈ ws) (c : Conn (within es ws) a b) : b ∈ ws ∧ f a = f b := by
  induction c with
  | refl => exact ⟨ha, rfl⟩
  | step _ hp ih =>
    rcases hp with hp | hp
    · obtain ⟨h1, h2, h3⟩ := mem_within.mp hp
      exact ⟨h3, ih.2.trans (h.join _ h1 h2 h3)⟩
    · obtain ⟨h1, h2, h3⟩ := mem_within.mp hp
      exact ⟨h2, ih.2.trans (h.join _ h1 h2 h3).symm⟩
theorem group_eq {es : List (Int × Int)} {ws : List Int} {f : Int → Int} (h : Lab es ws f) (asc : Asc ws) {v : Int} (hv : v ∈ ws) :
    srtI (passes (within es ws) v (within es ws).length) = ws.filter fun u => decide (f u = f v) := by
  refine asc_ext (srtI_asc (Jn.passes _ _ _).nd) (asc.filter _) fun z => ?_
  rw [(srtI_perm _).mem_iff, mem_passes, List.mem_filter, decide_eq_true_eq]
  constructor
  · intro c
    obtain ⟨h1, h2⟩ := conn_lab h hv c
    exact ⟨h1, h2.symm⟩
  · intro hz
    exact h.conn v hv z hz.1 hz.2.symm
end TL
namespace TL
open PySem PySem.Spec PyProof.Rows L2
/-! ### sorted, of a set of tuples of ints of any lengths -/
theorem perm_map {α β : Type} {f : α → β} {vs ms : List β} (h : vs.Perm ms) : ∀ {l : List α}, ms = l.map f → ∃ l' : List α, l'.Perm l ∧ vs = l'.map f := by
  induction h with
  | nil =>
    intro l e
    exact ⟨l, .refl _, e⟩
  | cons x _ ih =>
    intro l e
    cases l with
    | nil => cases e
    | cons y l =>
      rw [List.map_cons] at e
      injection e with e1 e2
      obtain ⟨l', p, e3⟩ := ih e2
      exact ⟨y :: l', p.cons y, by rw [List.map_cons, ← e1, e3]⟩
  | swap x y l0 =>
    intro l e
    match l, e with
    | a :: b :: l, e =>
      rw [List.map_cons, List.map_cons] at e
      injection e with e1 e2
      injection e2 with e2 e3
      exact ⟨b :: a :: l, .swap _ _ _, by rw [List.map_cons, List.map_cons, ← e1, ← e2, e3]⟩
  | trans _ _ ih1 ih2 =>
    intro l e
    obtain ⟨l2, p2, e2⟩ := ih2 e
    obtain ⟨l1, p1, e1⟩ := ih1 e2
    exact ⟨l1, p1.trans p2, e1⟩
theorem reads_ints {h : Heap} : ∀ {vs : List Value} {ns : List Int}, IntsAre vs ns → ReadsAll h vs (ns.map .int) []
  | [], [], _ => .nil
  | v :: vs, n :: ns, a => by
    cases a with
    | cons _ t a2 => exact ReadsAll.cons (as := []) (bs := []) (.int n t) (reads_ints a2)
def rSortSet (K : PySem.W.Frag) (P : Program) (w : World) : List V → Hp → VK → Prop := fun vs H Q => ∃ (a : Addr) (L : List (Addr × List Int)), vs = [V.ref a] ∧ H a = some (SetTO P w a L) ∧ (∀ p ∈ L, SqT K H p.1 (p.2.map V.int)) ∧ (∀ p ∈ L, p.2 ≠ []) ∧
  ∀ (L' : List (Addr × List Int)) p ys, H p = none → L'.Perm L → (L'.map (·.2)).Nodup → DpAll K H ys (((L'.map (·.2)).mergeSort (PySem.W.dataLe false intsD)).map intsD) → Q (.ref p) (upd H p (.lst ys))
theorem alike_ints : ∀ x y : List Int, PySem.W.alikeAll (x.map PyData.int) (y.map PyData.int) = true := by
  intro x
  induction x with
  | nil => intro y; cases y <;> simp [PySem.W.alikeAll]
  | cons n x ih =>
    intro y
    cases y with
    | nil => simp [PySem.W.alikeAll]
    | cons k y => simp [PySem.W.alikeAll, PySem.W.alike, ih y]
theorem dataLe_intsD : PySem.W.dataLe false intsD = fun p q : List Int => decide (p ≤ q) := by
  funext p q
  show (!PySem.W.dataLt (.tuple (q.map .int)) (.tuple (p.map .int))) = _
  rw [PySem.W.dataLt_tuple]
  show (!PySem.W.rowLt (q.map .int) (p.map .int)) = _
  rw [PySem.W.dataLt_ints]
  by_cases h : q < p
  · have h' : ¬ p ≤ q := fun r => List.not_lt.mpr r h
    simp [h, h']
  · have h' : p ≤ q := List.not_lt.mp h
    simp [h, h']
theorem rows_le (A : List (List Int)) : (A.mergeSort (PySem.W.dataLe false intsD)).Pairwise (· ≤ ·) := by
  rw [dataLe_intsD]
  refine (List.pairwise_mergeSort (le := fun p q : List Int => decide (p ≤ q)) (fun a b c h1 h2 => decide_eq_true (List.le_trans (of_decide_eq_true h1) (of_decide_eq_true h2))) (fun a b => ?_) A).imp fun h => of_decide_eq_true h
  rcases List.le_total a b with h | h
  · simp [h]
  · simp [h]
theorem rows_sort {A B : List (List Int)} (h : A.Perm B) : A.mergeSort (PySem.W.dataLe false intsD) = B.mergeSort (PySem.W.dataLe false intsD) :=
  ((List.mergeSort_perm A _).trans (h.trans (List.mergeSort_perm B _).symm)).eq_of_pairwise (fun x y _ _ h1 h2 => List.le_antisymm h1 h2) (rows_le A) (rows_le B)
section
variable {X : Cx}
theorem cr_sortSet (hc : X.calm = true) (hu : X.A.units + 64 < cLine) : CallR X (.builtin "sorted") (rSortSet X.K X.prog X.w) := by
  intro pins s σ H vs us Q I r h
  obtain ⟨a, L, rfl, ha, hk, hne, q⟩ := h
  have R0 : SetT0 X.prog X.w s.heap a L := (I.hok a _ ha).1
  obtain ⟨es, ep, t, R⟩ := R0.full fun p hp => I.isT (hk p hp)
  rw [Vals.ref1 r]
  obtain ⟨o, ho, hex, hd⟩ := R.ob
  have hsz := R.size
  have hfew := R.few
  refine Calls.call_function_entry kind_sorted plain_sorted entry_sorted (args_sorted1 _) ?_
  unfold Builtin.«sorted»
  refine wpAny_bind (m := checkCount "sorted" 1 1 _) (wpAny_pure ?_)
  refine wpAny_bind (collect_set (A := X.A.in1) (I.ok.hd hc) ⟨o, ho, hex.1, hd⟩ R.fits (by unfold scanBound; omega) R.tab.ris R.led fun s1 vs k1 hz g1 o1 pm => ?_)
  have hes : es.toList.map (·.2) = L.map fun q => Value.ref q.1 := by
    rw [R.rows]
    unfold rowsOf
    rw [List.map_map] <;> rfl
  rw [hes] at pm
  obtain ⟨L1, p1, rfl⟩ := perm_map pm rfl
  have l1 : L1.length < 64 := by rw [p1.length_eq]; exact hfew
  refine wpAny_bind (wpAny_newList ?_ (by rw [sizeLine_eq, List.length_map]; omega))
  have hoL : (s1.heap.push (seqObj "list" (L1.map fun q => Value.ref q.1).toArray 0)).get? s1.heap.objs.size = some (seqObj "list" (L1.map fun q => Value.ref q.1).toArray 0) := Heap.get?_push_size _ rfl
  have e1 : ∀ l : List (Addr × List Int), (∀ p ∈ l, p ∈ L) → PySem.W.EachIs (fun (u : Value) (b : List Int) => ∃ x, RelV x u ∧ Dp X.K H x (intsD b)) (l.map fun q => Value.ref q.1) (l.map (·.2)) := by
    intro l
    induction l with
    | nil => intro _; exact .nil
    | cons q l ih =>
      intro hs
      exact .cons ⟨.ref q.1, rfl, Dp.ints (hk q (hs q List.mem_cons_self))⟩ (ih fun p hp => hs p (List.mem_cons_of_mem _ hp))
  have e2 : ∀ l : List (Addr × List Int), (∀ p ∈ l, p ∈ L) → PySem.W.EachIs (fun (u : Value) (b : List Int) => ∃ as, Reads (s1.heap.push (seqObj "list" (L1.map fun q => Value.ref q.1).toArray 0)) u (intsD b) as ∧ s1.heap.objs.size ∉ as) (l.map fun q => Value.ref q.1) (l.map (·.2)) := by
    intro l
    induction l with
    | nil => intro _; exact .nil
    | cons q l ih =>
      intro hs
      obtain ⟨oq, its, n, hoq, hcq, hdq, hit⟩ := R.tup q (hs q List.mem_cons_self)
      refine .cons ⟨[], ?_, fun z => nomatch z⟩ (ih fun p hp => hs p (List.mem_cons_of_mem _ hp))
      exact .tuple (Heap.get?_push_of_some _ (k1 _ _ hoq)) hcq hdq (reads_ints (ints_of_items hit))
  have hin : ∀ p ∈ L1, p ∈ L := fun p hp => p1.mem_iff.mp hp
  refine wpAny_bind (wpAny_holding (PySem.W.list_sort_data (s := { s1 with heap := s1.heap.push (seqObj "list" (L1.map fun q => Value.ref q.1).toArray 0) }) hoL (e1 L1 hin) (e2 L1 hin) ?_ ?_ (by rw [List.length_map, sizeLine_eq]; omega) (fun b _ => ?_) fun out ho2 eo => ?_))
  · intro d hd e he
    obtain ⟨x, _, rfl⟩ := List.mem_map.mp hd
    obtain ⟨y, _, rfl⟩ := List.mem_map.mp he
    simp only [intsD, PySem.W.alike]
    exact alike_ints x y
  · refine .inl fun d hd => ?_
    obtain ⟨x, hx, rfl⟩ := List.mem_map.mp hd
    obtain ⟨p, hp, rfl⟩ := List.mem_map.mp hx
    cases h2 : p.2 with
    | nil => exact absurd h2 (hne p (hin p hp))
    | cons n r => exact ⟨_, _, rfl⟩
  · have : (intsD b).depth ≤ 50 := by
      simp only [intsD, PyData.depth, dep_ints]
      decide
    show X.A.in1.units + 1 + _ < _
    have : X.A.in1.units ≤ X.A.units + 1 := Nat.le_refl _
    omega
  obtain ⟨ys, ry, dy⟩ := of_each intsD eo
  obtain ⟨c, hc2⟩ := sortedHeap_at (vs := L1.map fun q => Value.ref q.1) (out := out.toArray) hoL
  have hn : H s1.heap.objs.size = none := I.hok.fresh hz
  have hq : ∀ b o, s.heap.get? b = some o → (sortedHeap (s1.heap.push (seqObj "list" (L1.map fun q => Value.ref q.1).toArray 0)) s1.heap.objs.size (L1.map fun q => Value.ref q.1) out.toArray).get? b = some o := fun b u e => by
    have q := k1 b u e
    have hlt := Heap.lt_size q
    rw [sortedHeap_old (Nat.ne_of_lt hlt) (by rw [size_push']; exact Nat.lt_succ_of_lt hlt)]
    exact Heap.get?_push_of_some _ q
  have hol : out.length = L1.length := by rw [ho2, List.length_map]
  have hlen : ys.length ≤ sizeLine := by rw [ry.length, hol, sizeLine_eq]; omega
  have J : L2.Inv X pins σ (upd H s1.heap.objs.size (.lst ys)) { s1 with heap := sortedHeap (s1.heap.push (seqObj "list" (L1.map fun q => Value.ref q.1).toArray 0)) s1.heap.objs.size (L1.map fun q => Value.ref q.1) out.toArray } :=
    I.call' (ch := []) o1 (Un.laid hq hz hn) (I.hok.laid hq hz ⟨hlen, out, c, ry, hc2⟩) (by show AllBare s1.gens; rw [g1]; exact I.bare) (fun _ z => nomatch z)
  exact wpAny_pure ⟨_, rfl, ⟨.ref s1.heap.objs.size, _, J, rfl, q L1 _ ys hn p1 ((p1.map (·.2)).nodup_iff.mpr R.nd) dy⟩⟩
end
end TL
namespace TL
open PySem PySem.Spec PyProof.Rows L2
theorem onlyAll_app : ∀ a b : List PyData, onlyAll (a ++ b) = (onlyAll a && onlyAll b)
  | [], b => by simp [onlyAll]
  | x :: a, b => by
    rw [List.cons_append]
    simp only [onlyAll, onlyAll_app a b, Bool.and_assoc]
theorem onlyAll_map {β : Type} {d : β → PyData} (h : ∀ b, only (d b) = true) : ∀ l : List β, onlyAll (l.map d) = true
  | [] => by simp [onlyAll]
  | x :: l => by simp [onlyAll, h x, onlyAll_map h l]
/-- [e for u in a tuple of ints for v in what f gives] -/
theorem lc2_tup {K : PySem.W.Frag} {a : Addr} {S : List Int} {i j : Nat} {wi1 : TI} {te : TE} {vs vs1 : List Nat} {σ : L2.St} {H1 : Hp} {D : Addr} {Qd : Hp → Prop}
    (f : Int → List Int) (d : Int → Int → PyData) (nD : H1 D = none) (hS : SqT K H1 a (S.map V.int))
    (hw : ∀ v, wipe ((wipe σ vs).set i (some v)) vs = wipe σ vs)
    (hw1 : ∀ u v, wipe ((wipe ((wipe σ vs).set i (some u)) vs1).set j (some v)) vs1 = wipe ((wipe σ vs).set i (some u)) vs1)
    (hin : ∀ u ∈ S, ∀ H' (R : It → Hp → Prop), Same H1 H' → (∀ H2 b, Same H' H2 → SqT K H2 b ((f u).map V.int) → R (Itt K b) H2) → wi1 ((wipe σ vs).set i (some (.int u))) H' R)
    (he : ∀ u ∈ S, ∀ v ∈ f u, ∀ H' (Q : VK), Same H1 H' → (∀ H2 y, Same H' H2 → Dp K H2 y (d u v) → Q y H2) → te ((wipe ((wipe σ vs).set i (some (.int u))) vs1).set j (some (.int v))) H' Q)
    (ho : ∀ u v, only (d u v) = true) (hl : S.length ≤ 100) (hf : ∀ u ∈ S, (f u).length ≤ 100)
    (hd : ∀ H' ys, Same H1 H' → H' D = some (.lst ys) → DpAll K H' ys (S.flatMap fun u => (f u).map (d u)) → Qd H') :
    ∃ W : Nat → Nat → Hp → Prop, (∃ m, W 0 m (upd H1 D (.lst []))) ∧ ∀ k m H, W k m H →
      ((Itt K a).stop k H ∧ Qd H) ∨
      ((Itt K a).go k H ∧ ∃ Nx : Hp → Prop, (∀ H', Nx H' → ∃ m', m' < m ∧ W (k + 1) m' H') ∧
        ∀ x H', (Itt K a).yld k H x H' → (gName i) x (wipe σ vs) H' fun σ2 H2 =>
          wipe σ2 vs = wipe σ vs ∧ tYes σ2 H2 fun b H3 =>
            if b = true then
              wi1 σ2 H3 fun J1 H4 => ∃ W1 : Nat → Nat → Hp → Prop, (∃ m, W1 0 m H4) ∧ ∀ j' k H, W1 j' k H →
                (J1.stop j' H ∧ Nx H) ∨
                (J1.go j' H ∧ ∃ Nx1 : Hp → Prop, (∀ H', Nx1 H' → ∃ k', k' < k ∧ W1 (j' + 1) k' H') ∧
                  ∀ x H', J1.yld j' H x H' → (gName j) x (wipe σ2 vs1) H' fun σ3 H5 =>
                    wipe σ3 vs1 = wipe σ2 vs1 ∧ tYes σ3 H5 fun b H6 =>
                      if b = true then
                        te σ3 H6 fun y H7 => ∃ acc, H7 D = some (.lst acc) ∧ acc.length < sizeLine ∧ Nx1 (upd H7 D (.lst (acc ++ [y])))
                      else Nx1 H6)
            else Nx H3) := by
  have ofl : ∀ l : List Int, onlyAll (l.flatMap fun u => (f u).map (d u)) = true := by
    intro l
    induction l with
    | nil => simp [onlyAll]
    | cons u l ih => rw [List.flatMap_cons, onlyAll_app, ih, onlyAll_map (ho u)]; rfl
  let Pv : Nat → Hp → Prop := fun k H' => ∃ ys, Same H1 H' ∧ H' D = some (.lst ys) ∧ DpAll K H' ys ((S.take k).flatMap fun u => (f u).map (d u)) ∧ ys.length ≤ 100 * k
  refine ⟨fun k m H => m = S.length - k ∧ k ≤ S.length ∧ Pv k H, ⟨S.length, rfl, Nat.zero_le _, [], same_upd nD, upd_same, .nil, Nat.le_refl _⟩, fun k m H hW => ?_⟩
  obtain ⟨em, hk, ys, s, eD, dy, ln⟩ := hW
  by_cases hlt : k < S.length
  · refine .inr ⟨⟨_, _, Same.tup s hS, List.getElem?_eq_getElem (by rw [List.length_map]; exact hlt)⟩, Pv (k + 1), fun H' p => ⟨S.length - (k + 1), by omega, rfl, hlt, p⟩, fun x H' y => ?_⟩
    obtain ⟨e, hy⟩ := y
    subst e
    have hx := hy _ (Same.tup s hS)
    rw [List.getElem?_map, List.getElem?_eq_getElem hlt] at hx
    cases hx
    have mu : S[k] ∈ S := List.getElem_mem hlt
    have tk : S.take (k + 1) = S.take k ++ [S[k]] := by rw [List.take_add_one, List.getElem?_eq_getElem hlt]; rfl
    refine ⟨hw _, yesI (iteT (hin _ mu _ _ s fun H4 b s4 hb => ?_))⟩
    refine ⟨fun j' m H => m = (f S[k]).length - j' ∧ j' ≤ (f S[k]).length ∧ ∃ zs, Same H1 H ∧ SqT K H b ((f S[k]).map V.int) ∧ H D = some (.lst zs) ∧
      DpAll K H zs (((S.take k).flatMap fun u => (f u).map (d u)) ++ ((f S[k]).take j').map (d S[k])) ∧ zs.length ≤ 100 * k + j', ⟨(f S[k]).length, rfl, Nat.zero_le _, ys, s.trans s4, hb, s4 _ _ eD, ?_, by omega⟩, fun j' m H hW => ?_⟩
    · rw [List.take_zero, List.map_nil, List.append_nil]
      exact DpAll.same s4 dy
    · obtain ⟨em', hj, zs, sj, hbj, eDj, dz, lz⟩ := hW
      have lf := hf _ mu
      by_cases hjl : j' < (f S[k]).length
      · refine .inr ⟨⟨_, _, hbj, List.getElem?_eq_getElem (by rw [List.length_map]; exact hjl)⟩, fun H => ∃ zs, Same H1 H ∧ SqT K H b ((f S[k]).map V.int) ∧ H D = some (.lst zs) ∧
          DpAll K H zs (((S.take k).flatMap fun u => (f u).map (d u)) ++ ((f S[k]).take (j' + 1)).map (d S[k])) ∧ zs.length ≤ 100 * k + (j' + 1),
          fun H' p => ⟨(f S[k]).length - (j' + 1), by omega, rfl, hjl, p⟩, fun x H' y => ?_⟩
        obtain ⟨e, hy⟩ := y
        subst e
        have hx := hy _ hbj
        rw [List.getElem?_map, List.getElem?_eq_getElem hjl] at hx
        cases hx
        have mv : (f S[k])[j'] ∈ f S[k] := List.getElem_mem hjl
        refine ⟨hw1 _ _, yesI (iteT (he _ mu _ mv _ _ sj fun H5 y5 s5 d5 => ?_))⟩
        have e5 := s5 _ _ eDj
        have kt : KT K H5 (upd H5 D (.lst (zs ++ [y5]))) := kt_lst e5
        refine ⟨zs, e5, Nat.lt_of_le_of_lt (show zs.length ≤ 20000 by omega) (by decide), zs ++ [y5], ?_, kt _ _ (Same.tup s5 hbj), upd_same, ?_, ?_⟩
        · intro c o e
          rw [upd_ne (ne_of_none e nD)]
          exact s5 _ _ (sj _ _ e)
        · rw [List.take_add_one, List.getElem?_eq_getElem hjl, List.map_append, ← List.append_assoc]
          refine DpAll.append (DpAll.kt kt (DpAll.same s5 dz) ?_) (.cons (Dp.kt kt d5 (ho _ _)) .nil)
          rw [onlyAll_app, ofl, onlyAll_map (ho _)]
          rfl
        · rw [List.length_append, List.length_singleton]
          omega
      · obtain rfl : j' = (f S[k]).length := by omega
        refine .inl ⟨⟨_, hbj, by rw [List.length_map]; exact Nat.le_refl _⟩, zs, sj, eDj, ?_, by omega⟩
        rw [List.take_length] at dz
        rw [tk, List.flatMap_append, List.flatMap_cons, List.flatMap_nil, List.append_nil]
        exact dz
  · obtain rfl : k = S.length := by omega
    rw [List.take_length] at dy
    exact .inl ⟨⟨_, Same.tup s hS, by rw [List.length_map]; exact Nat.le_refl _⟩, hd H ys s eD dy⟩
section
variable {X : Cx}
def tTruth (K : PySem.W.Frag) (ta : TE) : TT := fun σ H Q => ta σ H fun x H' => ∃ k, TruV K x H' k ∧ Q k H'
theorem truthK (K : PySem.W.Frag) {a : Expr} {ta : TE} (ha : PE X a ta)
    (he : ∀ whole, isTrue a X.env whole = (do let v ← whole; standAt a.pos; holding [v] (truthy v))) (h : X.K = K := by rfl) :
    PT X a (tTruth K ta) := h ▸ pt_truth ha he
theorem isiK (K : PySem.W.Frag) (h : X.K = K := by rfl) : CallR X (.builtin "isinstance") (rIsi K) := h ▸ call_isi
end
theorem ty_tup {K : PySem.W.Frag} {H : Hp} {a : Addr} {xs : List V} (h : SqT K H a xs) : TyX K H (.ref a) (.type "tuple") := by
  rcases h with (h | ⟨o, h⟩) | ⟨o, its, n, h, c, _⟩
  · exact .base (.tup h)
  · exact .fTuple h
  · exact .kTuple h c
end TL
namespace TL
open PySem PySem.Spec PyProof.Rows L2
theorem Sm.ints {ns : List Int} {m : Nat} (h : ∀ v ∈ ns, sm v) (hm : ns.length ≤ m) : Sm (intsD ns) (m * 11) 1 :=
  Sm.tup (n := 10) (k := 0) (m := m) (fun d hd => by
    obtain ⟨p, hp, rfl⟩ := List.mem_map.mp hd
    exact Sm.int (h p hp)) (by rw [List.length_map]; exact hm)
theorem IsSet.shows {m : Nat} {es : List (Int × Int)} {S : List Int} (h : IsSet m es S) (hm : m ≤ 12) : Sm (intsD S) 132 1 :=
  Sm.ints (m := 12) (fun v hv => by have := h.rng v hv; unfold sm; omega) (by have := h.len; omega)
theorem IsFor.shows {m : Nat} {es : List (Int × Int)} (h : IsFor m es) (hm : m ≤ 12) : Sm (forD m es) 600 3 := by
  have h1 : Sm (prsD es) (12 * 23) 2 := Sm.prs (fun p hp => by have := h.rng p hp; unfold smP sm; omega) (by have := h.count; omega)
  have h2 : Sm (.int (m : Int)) (12 * 23) 2 := (Sm.int (by unfold sm; omega)).le (by decide) (by decide)
  refine (Sm.tup (n := 12 * 23) (k := 2) (m := 2) (fun d hd => ?_) (Nat.le_refl _)).le (by decide) (by decide)
  rcases List.mem_cons.mp hd with rfl | hd
  · exact h2
  · obtain rfl := List.mem_singleton.mp hd
    exact h1
theorem slides_small {m : Nat} {es : List (Int × Int)} {S : List Int} (h : IsSet m es S) (hm : m ≤ 12) : ∀ p ∈ slidesP m es S, smP p := by
  rintro ⟨u, v⟩ hp
  obtain ⟨h1, h2, _⟩ := mem_slidesP.mp hp
  have a := h.rng u h1
  have b := (mem_nearL.mp h2).1
  unfold smP sm
  exact ⟨⟨by show (-1000 : Int) ≤ u; omega, by show u ≤ 1000; omega⟩, by show (-1000 : Int) ≤ v; omega, by show v ≤ 1000; omega⟩
theorem slides_len {m : Nat} {es : List (Int × Int)} {S : List Int} (h : IsSet m es S) (hm : m ≤ 12) : (slidesP m es S).length ≤ 144 := by
  have h1 := List.length_filter_le (fun p => decide (oth m es S p.1 p.2 = [])) (stepsL m es S)
  have h2 := steps_len m es S
  have h3 : S.length * m ≤ 12 * 12 := Nat.mul_le_mul (by have := h.len; omega) hm
  unfold slidesP
  omega
theorem Sm.two {d e : PyData} {n k : Nat} (h1 : Sm d n k) (h2 : Sm e n k) : Sm (.list [d, e]) (2 * (n + 1)) (k + 1) :=
  Sm.lst (m := 2) (fun z hz => by
    rcases List.mem_cons.mp hz with rfl | hz
    · exact h1
    · obtain rfl := List.mem_singleton.mp hz
      exact h2) (Nat.le_refl _)
theorem show2 {m : Nat} {es : List (Int × Int)} {S : List Int} (f : IsFor m es) (h : IsSet m es S) (hm : m ≤ 12) : Shows (.list [forD m es, intsD S]) :=
  (Sm.two (f.shows hm) ((h.shows hm).le (by decide) (by decide))).shows (by decide) (by decide)
end TL
namespace TL
open PySem PySem.Spec PyProof.Rows L2
/-! ### enumerate(a tuple) -/
abbrev tupIt (l : Addr) : Obj := { cls := .type "tuple_iterator", data := .fields #[.ref l, .int 0 0] }
abbrev enumOb (it : Addr) : Obj :=
  { cls := .type "enumerate", data := .fields #[.none, .bool false, .ref it, rawInt 0, .none, .none] }
theorem meets_enumT (l : Addr) (items : Array Value) (n : Nat) (dct : Option Addr) (sl : Array (Option Value)) :
    Meets (Builtin.«enumerate.__new__» ⟨[.type "enumerate", .ref l], []⟩) (fun _ R s =>
      s.heap.get? l = some { cls := .type "tuple", dict := dct, data := .seq items n, slots := sl } ∧
      R (.ok (.ret (.ref (s.heap.push (tupIt l)).objs.size)))
        { s with heap := (s.heap.push (tupIt l)).push (enumOb s.heap.objs.size) }) :=
  .of_wp fun prog w A R s h => by
    obtain ⟨hp, g, d, tk, os⟩ := s
    obtain ⟨hl, h⟩ := h
    have hsub := sub_enumerate
    have hL : Heap.IsTuple (Shared.heap ⟨hp, g, d, tk, os⟩) l items := ⟨_, hl, rfl, n, rfl⟩
    wp_walk using AutoSeq1.wpAny_loadPart' hl
    refine wpAny_stack_any fun st => wpAny_pure ?_
    split
    · rename_i c _ _ _ _ _
      cases (c == Value.type "enumerate")
      · wp_walk using AutoSeq1.wpAny_loadPart' hl, wpAny_pyIter_tuple hL
        exact ⟨_, rfl, h⟩
      · wp_walk using AutoSeq1.wpAny_loadPart' hl, wpAny_pyIter_tuple hL
        exact ⟨_, rfl, h⟩
    · wp_walk using AutoSeq1.wpAny_loadPart' hl, wpAny_pyIter_tuple hL
      exact ⟨_, rfl, h⟩
section
variable {prog : Program} {w : World} {A : Around} {E : Value → Shared → Prop} {s : Shared}
theorem call_enumT {l : Addr} {items : Array Value} {Q : Value → Shared → Prop} (hL : s.heap.IsTuple l items)
    (h : ∀ h', IsEnum h' (s.heap.objs.size + 1) s.heap.objs.size 0 .none → h'.IsTupleIter s.heap.objs.size l 0 →
      (∀ b o, s.heap.get? b = some o → h'.get? b = some o) → Q (.ref (s.heap.objs.size + 1)) { s with heap := h' }) :
    wpAny (model prog w) A (call (.type "enumerate") [.ref l]) Q E s := by
  obtain ⟨⟨c, dct, dt, sl⟩, hl, hc, n, hd⟩ := hL
  obtain rfl : c = .type "tuple" := hc
  obtain rfl : dt = .seq items n := hd
  refine callType_new F.called_enumerate (by decide) (F.typeCall_enumerate_1 _) (F.newCall_enumerate_1 _)
    (fun obj => F.args_object_init_2 obj _) F.entry_enumerate_new (meets_enumT l items n dct sl) ⟨hl, ?_⟩
  have hz : (s.heap.push (tupIt l)).objs.size = s.heap.objs.size + 1 := Heap.size_push ..
  show _ ∧ _
  rw [hz]
  have he : IsEnum ((s.heap.push (tupIt l)).push (enumOb s.heap.objs.size)) (s.heap.objs.size + 1) s.heap.objs.size 0 .none := by
    have q := Heap.get?_push_size (s.heap.push (tupIt l)) (o := enumOb s.heap.objs.size) rfl
    rw [hz] at q
    exact q
  exact ⟨⟨_, he, rfl⟩, h _ he ⟨_, Heap.get?_push_of_some _ (Heap.get?_push_size _ rfl), rfl, rfl⟩
    fun b o x => Heap.get?_push_of_some _ (Heap.get?_push_of_some _ x)⟩
end
/-- the tuple at a, each item in a new pair -/
def IteT (K : PySem.W.Frag) (a : Addr) : It :=
  ⟨fun i H => ∃ (xs : List V) (x : V), SqT K H a xs ∧ xs[i]? = some x,
   fun i H v H' => ∃ T x, v = .ref T ∧ H T = none ∧ H' = upd H T (.tup [.int (i : Nat), x]) ∧ ∀ xs, SqT K H a xs → xs[i]? = some x,
   fun i H => ∃ xs : List V, SqT K H a xs ∧ xs.length ≤ i⟩
theorem turn_enumT {P : Program} {w : World} {K : PySem.W.Frag} {elts : List Expr} {kk : Nat} {tpos : Pos} (a e it : Addr) (ha : a ≠ it) :
    Turn P w K (.Tuple elts kk tpos) (IteT K a) [e, it] e
      (fun i h => (∃ old, IsEnum h e it ((i : Nat) : Int) old) ∧ h.IsTupleIter it a i ∧ e ≠ it) where
  mem := by simp
  obj := fun i h st b hb => by
    obtain ⟨⟨old, he⟩, ⟨o, ho, hc, hd⟩, _⟩ := st
    have e' : b = e ∨ b = it := by simpa using hb
    rcases e' with rfl | rfl
    · exact ⟨_, he, fun v q => nomatch q⟩
    · exact ⟨o, ho, fun v q => by rw [hd] at q; cases q⟩
  keep := fun i h h' st k => by
    obtain ⟨⟨old, he⟩, hi, hne⟩ := st
    exact ⟨⟨old, k e (by simp) _ he⟩, hi.at fun o q => k it (by simp) o q, hne⟩
  item := by
    intro X hP hw hK hc i pins s σ H E I hf st hg
    subst hP hw hK
    obtain ⟨⟨old, he⟩, hit, hne⟩ := st
    obtain ⟨xs, x, hq, hx⟩ := hg
    obtain ⟨its, rv, p, hz⟩ := I.tuple hq
    obtain ⟨u, hu, ru⟩ := rv.get hx
    have hel : e < s.heap.objs.size := Heap.lt_size he
    have hil : it < s.heap.objs.size := by
      obtain ⟨_, q, _⟩ := hit
      exact Heap.lt_size q
    have hi : i < its.toArray.size := by
      rw [List.size_toArray]
      exact (List.getElem?_eq_some_iff.mp hu).1
    obtain ⟨o0, ho0, hc0, n0, hd0⟩ := p
    have pT : s.heap.IsTuple a its.toArray := ⟨o0, ho0, hc0, n0, hd0⟩
    refine wpAny_pyNext_enum_itemD (Draws.tuple (A := X.A.in1) (I.ok.hd hc) it a ha its.toArray) he ⟨hit, pT⟩ hi hne (fun z => ?_) fun x' h' tk hP ho hit' hT hsz hk => ?_
    · rcases List.mem_cons.mp z with z | z
      · exact hne z
      · have z := List.mem_singleton.mp z
        rw [z] at he
        have q := Option.some.inj (ho0.symm.trans he)
        rw [q] at hc0
        exact absurd (show Value.type "enumerate" = Value.type "tuple" from hc0) (by decide)
    have ex : x' = u := by
      have h1 : its.toArray[i]? = some x' := hP
      have h2 : its.toArray[i]? = some u := by simpa using hu
      exact Option.some.inj (h1.symm.trans h2)
    subst ex
    refine ⟨_, rfl, wpAny_letOwnedTupleGo_enum (s := { s with heap := h', toks := tk + 1 }) ho fun h'' he' sb => ?_⟩
    have hT2 : h''.get? s.heap.objs.size = some { cls := .type "tuple", data := .seq #[.int i tk, x'] } := (sb.2 _ (Nat.ne_of_gt hel)).trans hT
    have new : ObjOk X.prog X.w (upd H s.heap.objs.size (.tup [.int (i : Nat), x])) h'' s.heap.objs.size (.tup [.int (i : Nat), x]) :=
      ⟨by show 2 ≤ sizeLine; decide, [.int i tk, x'], .cons ⟨_, rfl⟩ (.cons ru .nil), ⟨_, hT2, rfl, _, rfl⟩⟩
    have kept : ∀ b ob, b ∉ [e, it] → s.heap.get? b = some ob → h''.get? b = some ob := fun b ob hb q =>
      (sb.2 b (fun z => hb (by simp [z]))).trans (hk b ob (fun z => hb (by simp [z])) (fun z => hb (by simp [z])) q)
    have I1 := I.turnedNew (t' := tk + 1) (ch := [e, it]) kept hf (Nat.le_refl _) new
    refine ⟨.ref s.heap.objs.size, _, I1, rfl, ⟨_, x, rfl, I.hok.fresh (Nat.le_refl _), rfl, fun ys hy => by rw [I.tuple_inj hy hq]; exact hx⟩,
      ⟨⟨x', ?_⟩, hit'.1.at fun o q => (sb.2 it (Ne.symm hne)).trans q, hne⟩, fun b hb => ?_⟩
    · have e1 : ((i + 1 : Nat) : Int) = (i : Int) + 1 := by omega
      rw [e1]
      exact he'
    · have hb' : b < s.heap.objs.size := by
        have e' : b = e ∨ b = it := by simpa using hb
        rcases e' with rfl | rfl
        · exact hel
        · exact hil
      rw [upd_ne (Nat.ne_of_lt hb')]
      exact (hf b hb).1
  done := by
    intro X hP hw hK hc i pins s σ H E I hf st hg
    subst hP hw hK
    obtain ⟨⟨old, he⟩, hit, hne⟩ := st
    obtain ⟨xs, hq, hx⟩ := hg
    obtain ⟨its, rv, p, hz⟩ := I.tuple hq
    obtain ⟨f0, f1, f2, f3, f4, f5⟩ := hf it (by simp)
    have hl := rv.length
    obtain ⟨o0, ho0, hc0, n0, hd0⟩ := p
    have pT : s.heap.IsTuple a its.toArray := ⟨o0, ho0, hc0, n0, hd0⟩
    have hT : s.TypeIs (.ref e) "enumerate" := ⟨_, he, rfl⟩
    unfold pyNext
    refine wpAny_bind (wpAny_attempt (wpAny_callSpecial?_slot (name := Str.ofString "__next__") hT F.slot_enumerate_next
      (wpAny_call_entry F.slot_enumerate_next hT F.entry_enumerate_next ?_ (F.args_enumerate_next_1 _))))
    show wpAny _ _ (field (.ref e) 2 >>= _) _ _ _
    refine wpAny_bind (wpAny_field he rfl (x := .ref it) rfl ?_)
    refine wpAny_bind (wpAny_nextOf_tuple_end (I.ok.hd hc) hit pT (by simp; omega) fun h' x he' hx' => ?_)
    obtain ⟨o, ho, hc⟩ := hx'
    refine wpAny_bind (wpAny_isInstance (T := "StopIteration") (b := true) ⟨o, ho, hc⟩ isSubtype_stop ?_)
    exact wpAny_pure ⟨rfl, I.turned (t' := s.toks) (fun b o hb q => he' b o hb q) f0 f1 f3 f4 f5⟩
  self := fun A i s Q E st h => by
    obtain ⟨⟨_, he⟩, _⟩ := st
    exact wpAny_pyIter_enum he h
def iEnumT (K : PySem.W.Frag) (ta : TA) : TI := fun σ H R => ta σ H fun vs H1 => ∃ a xs, vs = [.ref a] ∧ SqT K H1 a xs ∧ R (IteT K a) H1
theorem pi_enumT (K : PySem.W.Frag) {X : Cx} {e : Expr} {ta : TA} {p pos tpos : Pos} {elts : List Expr} {kk : Nat} (hg : Gl X "enumerate") (hm : X.mg "enumerate" = none)
    (ha : PA X [e] ta) (hK : X.K = K := by rfl) (hs : starEach [e] X.env = [(false, eval e X.env)] := by rfl) :
    PI X (.Tuple elts kk tpos) (.Call (.Name "enumerate" p) [e] [] pos) (iEnumT K ta) := by
  subst hK
  refine ⟨fun pins s σ H R I h => ?_⟩
  refine Call_ (ld_blt I hg hm boot_enumerate (PyProof.Rows.callWith_type1
    (thn (ha.run pos pins s σ H _ I h) fun us s1 ⟨vs, H1, I1, r1, q1⟩ => ?_) hs rfl))
  obtain ⟨a, xs, ex, hq, q⟩ := q1
  subst ex
  cases r1 with
  | cons r rr =>
    cases rr
    cases r
    obtain ⟨its, rv, ⟨o0, ho0, hc0, n0, hd0⟩, hz⟩ := I1.tuple hq
    have pT : s1.heap.IsTuple a its.toArray := ⟨o0, ho0, hc0, n0, hd0⟩
    refine call_enumT pT fun h' he hit hk => wpAny_pyIter_enum he ?_
    have I2 : Inv X pins σ H1 { s1 with heap := h' } := I1.kept (t' := s1.toks) hk
    refine ⟨s1.heap.objs.size + 1, [s1.heap.objs.size + 1, s1.heap.objs.size], _, _, H1, rfl, I2,
      turn_enumT a (s1.heap.objs.size + 1) s1.heap.objs.size (Nat.ne_of_lt (Heap.lt_size ho0)), ⟨⟨.none, he⟩, hit, Nat.succ_ne_self _⟩, fun b hb => ?_, q⟩
    have hle : s1.heap.objs.size ≤ b := by
      have e' : b = s1.heap.objs.size + 1 ∨ b = s1.heap.objs.size := by simpa using hb
      rcases e' with z | z
      · rw [z]; exact Nat.le_add_right _ _
      · rw [z]; exact Nat.le_refl _
    exact I1.fpOk hle (I1.hok.fresh hle)
/-- a loop over enumerate(a tuple): the new pair at T -/
theorem for_enumT {K : PySem.W.Frag} {a : Addr} {xs : List V} {g : TG} {tb : TS} {D : Ends} {σ : L2.St} {H : Hp} (Pv : Nat → L2.St → Hp → Prop) (h0 : Pv 0 σ H) (hl : ∀ i σ H, Pv i σ H → SqT K H a xs)
    (hs : ∀ i x T σ H, xs[i]? = some x → H T = none → Pv i σ H →
      g (.ref T) σ (upd H T (.tup [.int (i : Nat), x])) fun σ2 H2 => tb { D with nx := Pv (i + 1), ct := Pv (i + 1), bk := D.nx } σ2 H2)
    (hd : ∀ σ H, Pv xs.length σ H → D.nx σ H) :
    ∃ W : Nat → Nat → L2.St → Hp → Prop, (∃ m, W 0 m σ H) ∧ ∀ i m σ H, W i m σ H →
      ((IteT K a).stop i H ∧ D.nx σ H) ∨ ((IteT K a).go i H ∧ ∃ N : L2.St → Hp → Prop, (∀ σ' H', N σ' H' → ∃ m', m' < m ∧ W (i + 1) m' σ' H') ∧
        ∀ v H', (IteT K a).yld i H v H' → g v σ H' fun σ2 H2 => tb { D with nx := N, ct := N, bk := D.nx } σ2 H2) := by
  refine ⟨fun i m σ H => m = xs.length - i ∧ i ≤ xs.length ∧ Pv i σ H, ⟨xs.length, rfl, Nat.zero_le _, h0⟩, fun i m σ H hW => ?_⟩
  obtain ⟨em, hi, p⟩ := hW
  by_cases hlt : i < xs.length
  · refine .inr ⟨⟨xs, _, hl i σ H p, List.getElem?_eq_getElem hlt⟩, Pv (i + 1), fun σ' H' p' => ⟨xs.length - (i + 1), by omega, rfl, hlt, p'⟩, fun v H' y => ?_⟩
    obtain ⟨T, x, rfl, nT, rfl, hx⟩ := y
    exact hs i x T σ H (hx _ (hl i σ H p)) nT p
  · obtain rfl : i = xs.length := by omega
    exact .inl ⟨⟨xs, hl _ σ H p, Nat.le_refl _⟩, hd σ H p⟩
end TL
namespace TL
open PySem PySem.Spec PyProof.Rows L2
section
variable {X : Cx}
/-- name = {..} on one line, the name a local -/
theorem ps_setDc {i : Nat} {y : Str} {py : Pos} {kx vx tg iter : Expr} {ifs : List Expr} {scope : Scope} {own : List (Str × Nat)} {pos spos : Pos}
    {wi : TI} {g : TG} {tt : TT} {tk tv : TE} (hc : X.calm = true) (hN : X.N.Nodup) (hy : X.N[i]? = some y) (hyl : X.env.scope.names.lookup y = some .local)
    (hsw : swapsWith (.DictComp kx vx [⟨tg, iter, ifs, 0⟩] scope pos) (some (.Name y py)) spos.line X.env = pure true)
    (hi : PI X tg iter wi) (ok : BlkOk X.N X.env.scope scope own)
    (hg : ∀ (s : Shared) (H : Hp) (C : Addr) (cl : List (Str × Addr)) (fp : List Addr),
      PG (X.blk s H scope (compEnvC scope cl C X.env) fp) tg g)
    (ht : ∀ (s : Shared) (H : Hp) (C : Addr) (cl : List (Str × Addr)) (fp : List Addr),
      PTs (X.blk s H scope (compEnvC scope cl C X.env) fp) ifs tt)
    (hk : ∀ (s : Shared) (H : Hp) (C : Addr) (cl : List (Str × Addr)) (fp : List Addr),
      PE (X.blk s H scope (compEnvC scope cl C X.env) fp) kx tk)
    (he : ∀ (s : Shared) (H : Hp) (C : Addr) (cl : List (Str × Addr)) (fp : List Addr),
      PE (X.blk s H scope (compEnvC scope cl C X.env) fp) vx tv)
    (hs : ∀ x, foldedSetIterable iter X.env x = pure x := by intro _; rfl) :
    PS X (.Assign [.Name y py] (.DictComp kx vx [⟨tg, iter, ifs, 0⟩] scope pos) spos) (tAsg (tDc wi g tt tk tv (own.map (·.2))) (gName i)) := by
  refine ⟨fun pins s σ H D I h => ?_⟩
  rw [exec_Assign_Name_used _ _ _ _ hsw]
  refine wpAny_bind (wpAny_standAt (wpAny_bind ?_))
  show wpAny _ X.A (do
    let _ ← comprehension (.DictComp kx vx [⟨tg, iter, ifs, 0⟩] scope pos) scope X.env
      (firstIterPos [⟨tg, iter, ifs, 0⟩] pos) newDict false (eval iter X.env) (some (assign (.Name y py) X.env))) _ _ s
  have h2 : tDc wi g tt tk tv (own.map (·.2)) σ H (fun x H1 => gName i x σ H1 D.nx) := h
  refine wpAny_bind (thn (dc_core (Qf := fun _ s' => SP X pins D .next s') hc hN I hi ok hg ht hk he hs h2
    fun L C s' m H' I' q hn f => ?_) fun _ s' hq => wpAny_pure (wpAny_pure hq))
  show wpAny _ _ (assign (.Name y py) X.env (.ref L)) _ _ _
  refine wpAny_assign_Name (store_ok2 (v := V.ref L) I' hN hy (.inl hyl) rfl (fun s2 I2 ⟨a, sb, ha⟩ => ?_) (.inr hyl))
  obtain ⟨f0, f1, f2, f3, f4, f5⟩ := f
  have haC : C ≠ a := by
    rcases ha with z | z
    · rw [z]; exact f1
    · exact fun e => f4 y a z e.symm
  exact ⟨m, hn.sameBut sb haC, fun h3 sb3 => ⟨_, H', I2.turned (t' := s2.toks) (fun b o hb e => (sb3.2 b hb).trans e) f0 f1 f3 f4 f5, q⟩⟩
theorem sw_trueD {kx vx : Expr} {gs : List Comprehension} {scope : Scope} {pos py : Pos} {y : Str} {l : Nat} {env : Env} (hk : env.scope.kind = .function)
    (hy : env.scope.names.lookup y = some .local) (hl : (py.line == pos.line) = true)
    (ha : (scope.names.any fun (n, k) => n == y && (k == .local || k == .cell)) = false) :
    swapsWith (.DictComp kx vx gs scope pos) (some (.Name y py)) l env = pure true := by
  have ky : env.kindOf y = some .local := hy
  have hb : env.blockKind = .function := by
    unfold Env.blockKind
    rw [hk]
    rfl
  unfold swapsWith
  simp only [hb, ky, ha, Expr.pos, hl]
  rfl
end
/-! ### tables from ints to ints -/
def tab (f : Int → Int) (vs : List Int) : List (Key × V) := vs.map fun v => ((Sum.inl v : Key), V.int (f v))
theorem tab_val (f : Int → Int) (v : Int) : ∀ vs : List Int, valV (tab f vs) (Sum.inl v) = if v ∈ vs then some (V.int (f v)) else none
  | [] => rfl
  | u :: vs => by
    have ih := tab_val f v vs
    unfold tab at ih ⊢
    rw [List.map_cons]
    by_cases e : u = v
    · subst e
      rw [valV_pos rfl, if_pos List.mem_cons_self]
    · have e' : ¬ (Sum.inl u : Key) = Sum.inl v := fun z => e (Sum.inl.inj z)
      rw [valV_neg e', ih]
      by_cases h : v ∈ vs
      · rw [if_pos h, if_pos (List.mem_cons_of_mem _ h)]
      · rw [if_neg h, if_neg fun z => (List.mem_cons.mp z).elim (fun z => e z.symm) h]
theorem tab_len (f : Int → Int) (vs : List Int) : (tab f vs).length = vs.length := List.length_map _
theorem tab_snoc (f : Int → Int) (vs : List Int) (v : Int) (h : v ∉ vs) : putK (tab f vs) (Sum.inl v) (V.int (f v)) = tab f (vs ++ [v]) := by
  rw [putK_new _ (by rw [tab_val, if_neg h])]
  unfold tab
  rw [List.map_append]
  rfl
/-- {v: f(v) for v in ..}: the turns leave what was tracked as it was -/
theorem dc_tab {J : It} {g : TG} {tk tv : TE} {vs : List Nat} {σ : L2.St} {H1 : Hp} {D : Addr} {Qd : Hp → Prop} (f : Int → Int) (bs : List Int) (σb : Int → L2.St)
    (nd : bs.Nodup) (nD : H1 D = none) (hl : bs.length ≤ 1000)
    (hgo : ∀ j H', j < bs.length → Same H1 H' → J.go j H') (hst : ∀ H', Same H1 H' → J.stop bs.length H')
    (hg : ∀ j b x H' H'', bs[j]? = some b → Same H1 H' → J.yld j H' x H'' → H'' = H' ∧ ∀ Q : L2.St → Hp → Prop, Q (σb b) H' → g x (wipe σ vs) H' Q)
    (hw : ∀ b, wipe (σb b) vs = wipe σ vs)
    (hk : ∀ b ∈ bs, ∀ H' (Q : VK), Same H1 H' → Q (.int b) H' → tk (σb b) H' Q)
    (hv : ∀ b ∈ bs, ∀ H' (Q : VK), Same H1 H' → (∀ H2, Same H' H2 → Q (.int (f b)) H2) → tv (σb b) H' Q)
    (hd : ∀ H', Same H1 H' → H' D = some (.dK (tab f bs)) → Qd H') :
    ∃ W : Nat → Nat → Hp → Prop, (∃ m, W 0 m (upd H1 D (.dK []))) ∧ ∀ i m H, W i m H →
      (J.stop i H ∧ Qd H) ∨
      (J.go i H ∧ ∃ Nx : Hp → Prop, (∀ H', Nx H' → ∃ m', m' < m ∧ W (i + 1) m' H') ∧
        ∀ x H', J.yld i H x H' → g x (wipe σ vs) H' fun σ2 H2 => wipe σ2 vs = wipe σ vs ∧ tYes σ2 H2 fun b H3 =>
          if b = true then
            tk σ2 H3 fun y H4 => tv σ2 H4 fun z H5 => ∃ kvs k, y = kV k ∧ H5 D = some (.dK kvs) ∧ kvs.length < sizeLine ∧ Nx (upd H5 D (.dK (putK kvs k z)))
          else Nx H3) := by
  let Pv : Nat → Hp → Prop := fun i H' => Same H1 H' ∧ H' D = some (.dK (tab f (bs.take i)))
  refine ⟨fun i m H => m = bs.length - i ∧ i ≤ bs.length ∧ Pv i H, ⟨bs.length, rfl, Nat.zero_le _, same_upd nD, upd_same⟩, fun i m H hW => ?_⟩
  obtain ⟨em, hi, s, eD⟩ := hW
  by_cases hlt : i < bs.length
  · refine .inr ⟨hgo i H hlt s, Pv (i + 1), fun H' p => ⟨bs.length - (i + 1), by omega, rfl, hlt, p⟩, fun x H' y => ?_⟩
    obtain ⟨rfl, k⟩ := hg i bs[i] x H H' (List.getElem?_eq_getElem hlt) s y
    have mb : bs[i] ∈ bs := List.getElem_mem hlt
    refine k _ ⟨hw _, yesI (iteT (hk _ mb _ _ s (hv _ mb _ _ s fun H5 s5 => ?_)))⟩
    have tk' : bs.take (i + 1) = bs.take i ++ [bs[i]] := by rw [List.take_add_one, List.getElem?_eq_getElem hlt]; rfl
    have ni : bs[i] ∉ bs.take i := fun z => by
      obtain ⟨j, hj, e⟩ := List.mem_iff_getElem.mp z
      rw [List.length_take] at hj
      rw [List.getElem_take] at e
      have := (List.getElem_inj nd).mp e
      omega
    refine ⟨tab f (bs.take i), Sum.inl bs[i], rfl, s5 _ _ eD, ?_, ?_, ?_⟩
    · rw [tab_len, List.length_take]
      exact small1000 (by omega)
    · intro b o e
      rw [upd_ne (ne_of_none e nD)]
      exact s5 _ _ (s _ _ e)
    · rw [upd_same, tab_snoc f _ _ ni, tk']
  · obtain rfl : i = bs.length := by omega
    rw [List.take_length] at eD
    exact .inl ⟨hst H s, hd H s eD⟩
end TL
namespace TL
/-! ### paths in forests: between two vertices there is at most one -/
def Adj (es : List (Int × Int)) (a b : Int) : Prop := (a, b) ∈ es ∨ (b, a) ∈ es
theorem Adj.symm {es : List (Int × Int)} {a b : Int} (h : Adj es a b) : Adj es b a := h.elim .inr .inl
inductive Pth (es : List (Int × Int)) : Int → Int → List Int → Prop
  | one (a : Int) : Pth es a a [a]
  | cons {a b c : Int} {p : List Int} : Adj es a b → Pth es b c p → a ∉ p → Pth es a c (a :: p)
theorem Pth.mono {es fs : List (Int × Int)} (s : ∀ p ∈ es, p ∈ fs) {a b : Int} {p : List Int} (h : Pth es a b p) : Pth fs a b p := by
  induction h with
  | one a => exact .one a
  | cons ad _ n ih => exact .cons (ad.elim (fun z => .inl (s _ z)) fun z => .inr (s _ z)) ih n
theorem Pth.first {es : List (Int × Int)} {a b : Int} {p : List Int} (h : Pth es a b p) : a ∈ p := by
  cases h with
  | one => exact List.mem_singleton.mpr rfl
  | cons => exact List.mem_cons_self
theorem Pth.last {es : List (Int × Int)} {a b : Int} {p : List Int} (h : Pth es a b p) : b ∈ p := by
  induction h with
  | one a => exact List.mem_singleton.mpr rfl
  | cons _ _ _ ih => exact List.mem_cons_of_mem _ ih
theorem Pth.self {es : List (Int × Int)} {a : Int} {p : List Int} (h : Pth es a a p) : p = [a] := by
  cases h with
  | one => rfl
  | cons _ h n => exact absurd h.last n
theorem Pth.nodup {es : List (Int × Int)} {a b : Int} {p : List Int} (h : Pth es a b p) : p.Nodup := by
  induction h with
  | one a => exact List.pairwise_singleton _ _
  | cons _ _ n ih => exact List.nodup_cons.mpr ⟨n, ih⟩
theorem Pth.snoc {es : List (Int × Int)} {a b c : Int} {p : List Int} (h : Pth es a b p) (ad : Adj es b c) (n : c ∉ p) : Pth es a c (p ++ [c]) := by
  induction h with
  | one a =>
    refine .cons ad (.one c) fun z => n ?_
    rw [List.mem_singleton.mp z]
    exact List.mem_singleton.mpr rfl
  | cons ad0 _ n0 ih =>
    refine .cons ad0 (ih ad fun z => n (List.mem_cons_of_mem _ z)) fun z => ?_
    rcases List.mem_append.mp z with z | z
    · exact n0 z
    · rw [List.mem_singleton.mp z] at n
      exact n List.mem_cons_self
theorem Pth.rev {es : List (Int × Int)} {a b : Int} {p : List Int} (h : Pth es a b p) : Pth es b a p.reverse := by
  induction h with
  | one a => exact .one a
  | cons ad _ n ih =>
    rw [List.reverse_cons]
    exact ih.snoc ad.symm fun z => n (List.mem_reverse.mp z)
def Uniq (es : List (Int × Int)) : Prop := ∀ a b p q, Pth es a b p → Pth es a b q → p = q
section
variable {es : List (Int × Int)} {u v : Int} {e : Int × Int} (he : e = (v, u) ∨ e = (u, v)) (nv : ∀ p ∈ es, p.1 ≠ v ∧ p.2 ≠ v) (uv : u ≠ v)
include he nv
theorem adj_snoc {a b : Int} (h : Adj (es ++ [e]) a b) : Adj es a b ∨ (a = v ∧ b = u) ∨ (a = u ∧ b = v) := by
  rcases h with h | h
  · rcases List.mem_append.mp h with h | h
    · exact .inl (.inl h)
    · have h := List.mem_singleton.mp h
      rcases he with he | he
      · rw [he] at h; cases h; exact .inr (.inl ⟨rfl, rfl⟩)
      · rw [he] at h; cases h; exact .inr (.inr ⟨rfl, rfl⟩)
  · rcases List.mem_append.mp h with h | h
    · exact .inl (.inr h)
    · have h := List.mem_singleton.mp h
      rcases he with he | he
      · rw [he] at h; cases h; exact .inr (.inr ⟨rfl, rfl⟩)
      · rw [he] at h; cases h; exact .inr (.inl ⟨rfl, rfl⟩)
include uv
theorem adj_leaf {b : Int} (h : Adj (es ++ [e]) v b) : b = u := by
  rcases adj_snoc he nv h with h | h | h
  · rcases h with h | h
    · exact absurd rfl (nv _ h).1
    · exact absurd rfl (nv _ h).2
  · exact h.2
  · exact absurd h.1.symm uv
theorem pth_leaf1 {a b : Int} {p : List Int} (h : Pth (es ++ [e]) a b p) (ha : a ≠ v) (hb : b ≠ v) : v ∉ p ∧ Pth es a b p := by
  induction h with
  | one a => exact ⟨fun z => ha (List.mem_singleton.mp z).symm, .one a⟩
  | @cons a x c p ad hp na ih =>
    by_cases hx : x = v
    · subst hx
      have au : a = u := adj_leaf he nv uv ad.symm
      cases hp with
      | one => exact absurd rfl hb
      | cons ad2 hp2 n2 =>
        have yu := adj_leaf he nv uv ad2
        rw [yu, ← au] at hp2
        exact absurd (List.mem_cons_of_mem _ hp2.first) na
    · obtain ⟨h1, h2⟩ := ih hx hb
      refine ⟨fun z => (List.mem_cons.mp z).elim (fun z => ha z.symm) h1, .cons ?_ h2 na⟩
      rcases adj_snoc he nv ad with h | h | h
      · exact h
      · exact absurd h.1 ha
      · exact absurd h.2 hx
theorem pth_leaf2 {b : Int} {p : List Int} (h : Pth (es ++ [e]) v b p) (hb : b ≠ v) : ∃ p', p = v :: p' ∧ Pth es u b p' := by
  cases h with
  | one => exact absurd rfl hb
  | cons ad hp _ =>
    have yu := adj_leaf he nv uv ad
    rw [yu] at hp
    exact ⟨_, rfl, (pth_leaf1 he nv uv hp uv hb).2⟩
theorem uniq_snoc (U : Uniq es) : Uniq (es ++ [e]) := by
  intro a b p q hp hq
  by_cases ha : a = v
  · by_cases hb : b = v
    · rw [ha, hb] at hp hq
      rw [hp.self, hq.self]
    · rw [ha] at hp hq
      obtain ⟨p', rfl, h1⟩ := pth_leaf2 he nv uv hp hb
      obtain ⟨q', rfl, h2⟩ := pth_leaf2 he nv uv hq hb
      rw [U _ _ _ _ h1 h2]
  · by_cases hb : b = v
    · rw [hb] at hp hq
      obtain ⟨p', e1, h1⟩ := pth_leaf2 he nv uv hp.rev ha
      obtain ⟨q', e2, h2⟩ := pth_leaf2 he nv uv hq.rev ha
      rw [← U _ _ _ _ h1 h2, ← e1] at e2
      exact (List.reverse_inj.mp e2).symm
    · exact U _ _ _ _ (pth_leaf1 he nv uv hp ha hb).2 (pth_leaf1 he nv uv hq ha hb).2
end
theorem uniq_nil : Uniq [] := by
  intro a b p q hp hq
  cases hp with
  | one => rw [hq.self]
  | cons ad => exact ad.elim (fun z => nomatch z) fun z => nomatch z
theorem uniq_grow {m : Nat} {nm : List Int} : ∀ {n : Nat} {ks : List (Nat × Nat)}, ks.length = n → Grow m nm ks → Uniq (ks.map (edgeOf nm))
  | 0, ks, hn, g => by
    rw [List.length_eq_zero_iff.mp hn]
    exact uniq_nil
  | n + 1, ks, hn, g => by
    have hne : ks ≠ [] := fun z => by rw [z] at hn; cases hn
    obtain ⟨js, q, rfl⟩ : ∃ js q, ks = js ++ [q] := ⟨_, _, (List.dropLast_concat_getLast hne).symm⟩
    rw [List.length_append, List.length_singleton] at hn
    have gj : Grow m nm js := ⟨g.names, (List.pairwise_append.mp g.up).1, fun r hr => g.down r (List.mem_append_left _ hr)⟩
    have up := (List.pairwise_append.mp g.up).2.2
    obtain ⟨hq1, hq2⟩ := g.down q (List.mem_append_right _ (List.mem_singleton.mpr rfl))
    rw [List.map_append, List.map_singleton]
    have ne : nm.getD q.2 0 ≠ nm.getD q.1 0 := fun z => by have := g.inj (Nat.lt_trans hq1 hq2) hq2 z; omega
    refine uniq_snoc (v := nm.getD q.1 0) (u := nm.getD q.2 0) ?_ (fun p hp => ?_) ne (uniq_grow (n := n) (by omega) gj)
    · unfold edgeOf ordP
      split
      · exact .inl rfl
      · exact .inr rfl
    · obtain ⟨r, hr, rfl⟩ := List.mem_map.mp hp
      obtain ⟨hr1, hr2⟩ := gj.down r hr
      have hlt := up r hr q (List.mem_singleton.mpr rfl)
      have n1 : nm.getD r.1 0 ≠ nm.getD q.1 0 := fun z => by have := g.inj hr2 hq2 z; omega
      have n2 : nm.getD r.2 0 ≠ nm.getD q.1 0 := fun z => by have := g.inj (Nat.lt_trans hr1 hr2) hq2 z; omega
      unfold edgeOf ordP
      split
      · exact ⟨n1, n2⟩
      · exact ⟨n2, n1⟩
theorem IsFor.uniq {m : Nat} {es : List (Int × Int)} (f : IsFor m es) : Uniq es := by
  obtain ⟨nm, ks, g, p⟩ := f.grow
  intro a b x y hx hy
  exact uniq_grow rfl g a b x y (hx.mono fun q hq => p.mem_iff.mp hq) (hy.mono fun q hq => p.mem_iff.mp hq)
end TL
namespace TL
/-! ### an edge of a forest joins what no other edges join -/
theorem Pth.cut {es : List (Int × Int)} {a b : Int} {p : List Int} (h : Pth es a b p) : ∀ c ∈ p, ∃ q, Pth es a c q ∧ ∀ x ∈ q, x ∈ p := by
  induction h with
  | one a =>
    intro c hc
    rw [List.mem_singleton.mp hc]
    exact ⟨[a], .one a, fun x hx => hx⟩
  | @cons a y b p ad hp n ih =>
    intro c hc
    rcases List.mem_cons.mp hc with rfl | hc
    · exact ⟨[c], .one c, fun x hx => by rw [List.mem_singleton.mp hx]; exact List.mem_cons_self⟩
    · obtain ⟨q, hq, sub⟩ := ih c hc
      refine ⟨a :: q, .cons ad hq fun z => n (sub a z), fun x hx => ?_⟩
      rcases List.mem_cons.mp hx with rfl | hx
      · exact List.mem_cons_self
      · exact List.mem_cons_of_mem _ (sub x hx)
theorem Conn.pth {es : List (Int × Int)} {a b : Int} (h : Conn es a b) : ∃ p, Pth es a b p := by
  induction h with
  | refl => exact ⟨_, .one _⟩
  | @step b c _ e ih =>
    obtain ⟨p, hp⟩ := ih
    by_cases hc : c ∈ p
    · obtain ⟨q, hq, _⟩ := hp.cut c hc
      exact ⟨q, hq⟩
    · exact ⟨_, hp.snoc e hc⟩
theorem Pth.pair {es : List (Int × Int)} {a b x y : Int} {l : List Int} (h : Pth es a b l) (e : l = [x, y]) : Adj es x y := by
  cases h with
  | one => cases e
  | cons ad hp n =>
    cases hp with
    | one => cases e; exact ad
    | cons _ hp _ => cases hp <;> cases e
theorem IsFor.open {m : Nat} {A B : List (Int × Int)} {p : Int × Int} (f : IsFor m (A ++ p :: B)) : ¬ Conn A p.1 p.2 := by
  intro h
  obtain ⟨q, hq⟩ := h.pth
  have mem : p ∈ A ++ p :: B := List.mem_append_right _ List.mem_cons_self
  have r := f.rng p mem
  have h1 : Pth (A ++ p :: B) p.1 p.2 q := hq.mono fun x hx => List.mem_append_left _ hx
  have h2 : Pth (A ++ p :: B) p.1 p.2 [p.1, p.2] := .cons (.inl mem) (.one _) fun z => by
    have := List.mem_singleton.mp z
    omega
  have e := f.uniq _ _ _ _ h1 h2
  subst e
  have ad : Adj A p.1 p.2 := hq.pair rfl
  rcases ad with z | z
  · have := (List.pairwise_append.mp f.asc).2.2 _ z p List.mem_cons_self
    rcases this with y | y
    · simp only at y; omega
    · simp only at y; omega
  · have := f.rng _ (List.mem_append_left _ z)
    simp only at this
    omega
/-! ### sorted pairs -/
theorem srtP_congr {a b : List (Int × Int)} (h : a.Perm b) : srtP a = srtP b := by
  have p : (srtP a).Perm (srtP b) := (srtP_perm a).trans (h.trans (srtP_perm b).symm)
  refine p.eq_of_pairwise (fun x y _ _ h1 h2 => ?_) (srtP_le a) (srtP_le b)
  refine Prod.ext ?_ ?_ <;> omega
theorem Grow.sorted {m : Nat} {nm : List Int} {ks : List (Nat × Nat)} {es : List (Int × Int)} (g : Grow m nm ks) (p : es.Perm (ks.map (edgeOf nm))) : IsFor m (srtP es) := by
  rw [srtP_congr p]
  exact g.isFor
theorem ordP_eq {a b : Int} (h : a ≤ b) : ordP a b = (a, b) := by
  unfold ordP
  rw [if_pos h]
/-! ### names for vertices -/
def nam (ns : List Int) (v : Int) : Int := ns.getD v.toNat 0
def ren (ns : List Int) (p : Int × Int) : Int × Int := ordP (nam ns p.1) (nam ns p.2)
theorem ren_ord (ns : List Int) (a b : Int) : ren ns (ordP a b) = ordP (nam ns a) (nam ns b) := by
  unfold ren ordP
  by_cases h : a ≤ b
  · rw [if_pos h]
  · rw [if_neg h]
    exact ordP_comm (nam ns b) (nam ns a)
theorem nam_rng {ns : List Int} : (rng ns.length).map (nam ns) = ns := by
  unfold rng
  rw [List.map_map]
  refine List.ext_getElem? fun i => ?_
  rw [List.getElem?_map]
  by_cases h : i < ns.length
  · rw [List.getElem?_range h, List.getElem?_eq_getElem h]
    show some (ns.getD (Int.toNat (Int.ofNat i)) 0) = _
    show some (ns.getD i 0) = _
    rw [List.getD_eq_getElem?_getD, List.getElem?_eq_getElem h]
    rfl
  · rw [List.getElem?_eq_none (by rw [List.length_range]; omega), List.getElem?_eq_none (by omega)]
    rfl
theorem perm_len {m : Nat} {ns : List Int} (h : ns.Perm (rng m)) : ns.length = m := by rw [h.length_eq, rng_length]
theorem nam_in {m : Nat} {ns : List Int} (h : ns.Perm (rng m)) {v : Int} (hv : 0 ≤ v ∧ v < m) : 0 ≤ nam ns v ∧ nam ns v < m := by
  have hl : v.toNat < ns.length := by rw [perm_len h]; omega
  refine mem_rng.mp (h.mem_iff.mp ?_)
  unfold nam
  rw [List.getD_eq_getElem?_getD, List.getElem?_eq_getElem hl]
  exact List.getElem_mem hl
theorem nam_inj {m : Nat} {ns : List Int} (h : ns.Perm (rng m)) {u v : Int} (hu : 0 ≤ u ∧ u < m) (hv : 0 ≤ v ∧ v < m) (e : nam ns u = nam ns v) : u = v := by
  have hl : u.toNat < ns.length := by rw [perm_len h]; omega
  have hk : v.toNat < ns.length := by rw [perm_len h]; omega
  unfold nam at e
  rw [List.getD_eq_getElem?_getD, List.getElem?_eq_getElem hl, List.getD_eq_getElem?_getD, List.getElem?_eq_getElem hk] at e
  have nd : ns.Nodup := h.nodup_iff.mpr (rng_asc m).nodup
  have := (List.getElem_inj nd).mp e
  omega
theorem IsFor.renamed {m : Nat} {es : List (Int × Int)} {ns : List Int} (f : IsFor m es) (h : ns.Perm (TL.rng m)) : IsFor m (srtP (es.map (ren ns))) := by
  obtain ⟨nm, ks, g, p⟩ := f.grow
  have gn : ∀ i, i < m → (nm.map (nam ns)).getD i 0 = nam ns (nm.getD i 0) := fun i hi => by
    have hl : i < nm.length := by rw [g.len]; exact hi
    rw [List.getD_eq_getElem?_getD, List.getElem?_map, List.getD_eq_getElem?_getD, List.getElem?_eq_getElem hl]
    rfl
  have g' : Grow m (nm.map (nam ns)) ks := ⟨by
    refine (g.names.map (nam ns)).trans ?_
    have e : (TL.rng m).map (nam ns) = ns := by rw [← perm_len h]; exact nam_rng
    rw [e]
    exact h, g.up, g.down⟩
  refine g'.sorted ((p.map (ren ns)).trans ?_)
  rw [List.map_map]
  refine List.Perm.of_eq (List.map_congr_left fun q hq => ?_)
  obtain ⟨h1, h2⟩ := g.down q hq
  show ren ns (edgeOf nm q) = edgeOf (nm.map (nam ns)) q
  unfold edgeOf
  rw [ren_ord, gn _ h2, gn _ (Nat.lt_trans h1 h2)]
theorem ren_back {m : Nat} {es : List (Int × Int)} {ns ms : List Int} (f : IsFor m es) (back : ∀ v : Int, 0 ≤ v → v < m → nam ms (nam ns v) = v) : srtP ((srtP (es.map (ren ns))).map (ren ms)) = es := by
  rw [srtP_congr ((srtP_perm _).map (ren ms)), List.map_map]
  have e : es.map (ren ms ∘ ren ns) = es := by
    conv => rhs; rw [← List.map_id es]
    refine List.map_congr_left fun p hp => ?_
    have r := f.rng p hp
    show ren ms (ren ns p) = p
    unfold ren
    have := ren_ord ms (nam ns p.1) (nam ns p.2)
    unfold ren at this
    rw [this, back _ r.1 (by omega), back _ (by omega) r.2.2, ordP_eq (by omega)]
  rw [e]
  exact srtP_of_asc f.asc
/-! ### side by side -/
def shf (m : Nat) (p : Int × Int) : Int × Int := (p.1 + m, p.2 + m)
theorem rng_add (m n : Nat) : rng (m + n) = rng m ++ (rng n).map (· + (m : Int)) := by
  unfold rng
  rw [List.range_add, List.map_append, List.map_map, List.map_map]
  congr 1
  refine List.map_congr_left fun i _ => ?_
  show Int.ofNat (m + i) = Int.ofNat i + (m : Int)
  simp only [Int.ofNat_eq_natCast]
  omega
theorem ordP_add (a b c : Int) : ordP (a + c) (b + c) = ((ordP a b).1 + c, (ordP a b).2 + c) := by
  unfold ordP
  by_cases h : a ≤ b
  · rw [if_pos h, if_pos (by omega)]
  · rw [if_neg h, if_neg (by omega)]
theorem IsFor.beside {m n : Nat} {es fs : List (Int × Int)} (f : IsFor m es) (g : IsFor n fs) : IsFor (m + n) (es ++ fs.map (shf m)) := by
  obtain ⟨nm, ks, G, p⟩ := f.grow
  obtain ⟨nn, js, G2, p2⟩ := g.grow
  have l1 := G.len
  have l2 := G2.len
  have left : ∀ i, i < m → (nm ++ nn.map (· + (m : Int))).getD i 0 = nm.getD i 0 := fun i hi => by
    rw [List.getD_eq_getElem?_getD, List.getElem?_append_left (by omega), List.getD_eq_getElem?_getD]
  have right : ∀ i, i < n → (nm ++ nn.map (· + (m : Int))).getD (i + m) 0 = nn.getD i 0 + m := fun i hi => by
    rw [List.getD_eq_getElem?_getD, List.getElem?_append_right (by omega), l1, Nat.add_sub_cancel, List.getElem?_map, List.getD_eq_getElem?_getD, List.getElem?_eq_getElem (by omega)]
    rfl
  refine ⟨?_, fun q hq => ?_, nm ++ nn.map (· + (m : Int)), ks ++ js.map (fun q => (q.1 + m, q.2 + m)), ⟨?_, ?_, fun q hq => ?_⟩, ?_⟩
  · refine List.pairwise_append.mpr ⟨f.asc, ?_, fun a ha b hb => ?_⟩
    · refine List.pairwise_map.mpr ?_
      refine g.asc.imp fun {a b} h => ?_
      unfold shf LtP
      simp only
      rcases h with h | h
      · left; omega
      · right; omega
    · obtain ⟨c, hc, rfl⟩ := List.mem_map.mp hb
      have := f.rng a ha
      have := g.rng c hc
      left
      unfold shf
      simp only
      omega
  · rcases List.mem_append.mp hq with hq | hq
    · have := f.rng q hq
      omega
    · obtain ⟨c, hc, rfl⟩ := List.mem_map.mp hq
      have := g.rng c hc
      unfold shf
      simp only
      omega
  · rw [rng_add]
    exact G.names.append (G2.names.map _)
  · refine List.pairwise_append.mpr ⟨G.up, ?_, fun a ha b hb => ?_⟩
    · rw [List.pairwise_map]
      exact G2.up.imp fun {a b} h => by simp only; omega
    · obtain ⟨c, hc, rfl⟩ := List.mem_map.mp hb
      have := G.down a ha
      simp only
      omega
  · rcases List.mem_append.mp hq with hq | hq
    · have := G.down q hq
      omega
    · obtain ⟨c, hc, rfl⟩ := List.mem_map.mp hq
      have := G2.down c hc
      simp only
      omega
  · rw [List.map_append]
    refine List.Perm.append (p.trans (List.Perm.of_eq (List.map_congr_left fun q hq => ?_))) ((p2.map (shf m)).trans (List.Perm.of_eq ?_))
    · have := G.down q hq
      unfold edgeOf
      rw [left _ (by omega), left _ (by omega)]
    · rw [List.map_map, List.map_map]
      refine List.map_congr_left fun q hq => ?_
      have := G2.down q hq
      show shf m (edgeOf nn q) = ordP ((nm ++ nn.map (· + (m : Int))).getD (q.1 + m) 0) ((nm ++ nn.map (· + (m : Int))).getD (q.2 + m) 0)
      rw [right _ (by omega), right _ (by omega), ordP_add]
      rfl
/-! ### one vertex more -/
theorem Grow.more {m : Nat} {nm : List Int} {ks : List (Nat × Nat)} (g : Grow m nm ks) : Grow (m + 1) (nm ++ [(m : Int)]) ks where
  names := by
    have e : rng (m + 1) = rng m ++ [(m : Int)] := by
      rw [rng_add]
      congr 1
      show [Int.ofNat 0 + (m : Int)] = _
      simp
    rw [e]
    exact g.names.append (List.Perm.refl _)
  up := g.up
  down := fun q hq => by have := g.down q hq; omega
theorem more_get {m : Nat} {nm : List Int} {i : Nat} (l : nm.length = m) (hi : i < m) : (nm ++ [(m : Int)]).getD i 0 = nm.getD i 0 := by
  rw [List.getD_eq_getElem?_getD, List.getElem?_append_left (by omega), List.getD_eq_getElem?_getD]
theorem more_edges {m : Nat} {nm : List Int} {ks : List (Nat × Nat)} (g : Grow m nm ks) : ks.map (edgeOf (nm ++ [(m : Int)])) = ks.map (edgeOf nm) :=
  List.map_congr_left fun q hq => by
    have := g.down q hq
    unfold edgeOf
    rw [more_get g.len (by omega), more_get g.len (by omega)]
theorem IsFor.more {m : Nat} {es : List (Int × Int)} (f : IsFor m es) : IsFor (m + 1) es := by
  obtain ⟨nm, ks, g, p⟩ := f.grow
  refine ⟨f.asc, fun q hq => by have := f.rng q hq; omega, nm ++ [(m : Int)], ks, g.more, ?_⟩
  rw [more_edges g]
  exact p
theorem IsFor.attach {m : Nat} {es : List (Int × Int)} {v : Int} (f : IsFor m es) (hv : 0 ≤ v ∧ v < m) : IsFor (m + 1) (srtP (es ++ [(v, (m : Int))])) := by
  obtain ⟨nm, ks, g, p⟩ := f.grow
  have l := g.len
  obtain ⟨i, hi, ei⟩ := List.mem_iff_getElem.mp (g.names.mem_iff.mpr (mem_rng.mpr hv))
  have gi : nm.getD i 0 = v := by rw [List.getD_eq_getElem?_getD, List.getElem?_eq_getElem hi]; exact ei
  have gm : (nm ++ [(m : Int)]).getD m 0 = (m : Int) := by
    rw [List.getD_eq_getElem?_getD, List.getElem?_append_right (by omega), l, Nat.sub_self]
    rfl
  have g' : Grow (m + 1) (nm ++ [(m : Int)]) (ks ++ [(m, i)]) := ⟨g.more.names, List.pairwise_append.mpr ⟨g.up, List.pairwise_singleton _ _, fun a ha b hb => by
    rw [List.mem_singleton.mp hb]
    exact (g.down a ha).2⟩, fun q hq => by
    rcases List.mem_append.mp hq with hq | hq
    · have := g.down q hq
      omega
    · rw [List.mem_singleton.mp hq]
      simp only
      omega⟩
  refine g'.sorted ?_
  rw [List.map_append, more_edges g]
  refine List.Perm.append p (List.Perm.of_eq ?_)
  rw [List.map_singleton]
  unfold edgeOf
  simp only
  rw [gm, more_get l (by omega), gi, ordP_comm, ordP_eq (by omega)]
theorem IsFor.empty : IsFor 0 [] := ⟨.nil, (fun _ h => nomatch h), [], [], ⟨.nil, .nil, (fun _ h => nomatch h)⟩, .nil⟩
end TL
namespace TL
open PySem PySem.Spec PyProof.Rows L2
section
variable {X : Cx} {pos : Pos}
theorem pgLK (K : PySem.W.Frag) {es : List Expr} {k : Nat} {t : TGs} {n : Nat} (h : PGs X es t) (hc : X.calm = true := by rfl) (hK : X.K = K := by rfl)
    (hn : (assignEach es X.env).length = n := by rfl) (hst : (assignEach es X.env).findIdx? (·.1) = none := by rfl) :
    PG X (.Tuple es k pos) (gLst K n t) := hK ▸ pg_lst hc h hn hst
theorem leTK (K : PySem.W.Frag) (hu : X.A.units + 64 < cLine) (h : X.K = K := by rfl) : OpR X (compareOp .LtE) (rLeT K) := h ▸ op_leT (by omega)
end
section
variable {X : Cx}
/-- t.index(n), t a tuple of ints that holds n -/
def rTix (K : PySem.W.Frag) : V → List V → Hp → VK → Prop := fun x xs H Q => ∃ (p : Addr) (ns : List Int) (k : Int), x = .ref p ∧ xs = [.int k] ∧ SqT K H p (ns.map V.int) ∧ k ∈ ns ∧ Q (.int (ns.idxOf k : Nat)) H
theorem mt_tix : MtR X "tuple.index" (rTix X.K) := by
  intro pins s σ H x xs v us Q I rx rs h
  obtain ⟨p, ns, k, rfl, rfl, hq, hk, q⟩ := h
  cases rx
  obtain ⟨u, rfl, t, rfl⟩ := vals1 rs
  obtain ⟨its, r, ⟨o0, ho0, hc0, n0, hd0⟩, hz⟩ := I.tuple hq
  have i1 : IntsAre its ns := Vals.ints r
  refine SeqAt.call_tuple_index (ks := ns) (k := k) ⟨o0, ho0, hc0, n0, hd0⟩ ⟨i1.length, fun j h1 h2 => ?_⟩ hk ⟨.int _, H, I.tok _, ⟨_, rfl⟩, q⟩
  obtain ⟨t', et⟩ := PyProof.Rows.IntsAre.int_at i1 j its[j] (List.getElem?_eq_getElem h1)
  rw [et]
  have e : ns.getD j 0 = ns[j] := by rw [List.getD_eq_getElem?_getD, List.getElem?_eq_getElem h2]; rfl
  rw [e]
  have z : (ns[j] == k) = decide (ns[j] = k) := by
    by_cases q : ns[j] = k
    · rw [decide_eq_true q]; exact beq_iff_eq.mpr q
    · rw [decide_eq_false q]; exact beq_eq_false_iff_ne.mpr q
  rw [← z]
  exact SeqAt.EqAt.int_int _ _ _ _
theorem tixK (K : PySem.W.Frag) (h : X.K = K := by rfl) : MtR X "tuple.index" (rTix K) := h ▸ mt_tix
end
theorem filt_true {α : Type} (l : List α) : l.filter (fun _ => true) = l := List.filter_eq_self.mpr fun _ _ => rfl
/-- a loop by a measure that is carried along -/
theorem while_ms {c : TT} {tb : TS} {D : Ends} {σ : L2.St} {H : Hp} (W : Nat → L2.St → Hp → Prop) (n : Nat) (h0 : W n σ H)
    (hs : ∀ n σ H, W n σ H → c σ H fun b H1 => if b = true then tb { D with nx := fun σ' H' => ∃ n', n' < n ∧ W n' σ' H', ct := fun σ' H' => ∃ n', n' < n ∧ W n' σ' H', bk := D.nx } σ H1 else D.nx σ H1)
    (mono : ∀ σ H Q Q', (∀ b H1, Q b H1 → Q' b H1) → c σ H Q → c σ H Q') : tWhile c tb D σ H := by
  refine ⟨W, ⟨n, h0⟩, fun m σ H p => mono σ H _ _ (fun b H1 q => ?_) (hs m σ H p)⟩
  cases b with
  | true => exact ⟨_, fun σ' H' h => h, q⟩
  | false => exact q
/-! ### the state of the draws: cells, a count, what is left of great cells -/
structure Dw (H : Hp) (d r c : Addr) (n : Nat) : Prop where
  ex : ∃ (k : Nat) (cs rs : List Int), k ≤ n ∧ H d = some (.lst [.ref c, .int (k : Int), .ref r]) ∧ H c = some (.lst (cs.map V.int)) ∧ H r = some (.lst (rs.map V.int)) ∧
    c ≠ r ∧ 0 < cs.length ∧ rs.length = cs.length ∧ cs.length ≤ 63 ∧ (∀ z ∈ cs, 0 ≤ z) ∧ (∀ z ∈ rs, 0 ≤ z)
theorem ne_ints {H : Hp} {d c x : Addr} {vs : List V} {ns : List Int} (h1 : H d = some (.lst (.ref x :: vs))) (h2 : H c = some (.lst (ns.map V.int))) : d ≠ c := by
  intro e
  rw [e, h2] at h1
  cases ns with
  | nil => cases h1
  | cons z r => cases h1
theorem Dw.same {H H' : Hp} {d r c : Addr} {n : Nat} (h : Dw H d r c n) (e : Same H H') : Dw H' d r c n := by
  obtain ⟨k, cs, rs, hk, h1, h2, h3, h4⟩ := h.ex
  exact ⟨k, cs, rs, hk, e _ _ h1, e _ _ h2, e _ _ h3, h4⟩
theorem Dw.le {H : Hp} {d r c : Addr} {n m : Nat} (h : Dw H d r c n) (e : n ≤ m) : Dw H d r c m := by
  obtain ⟨k, cs, rs, hk, h4⟩ := h.ex
  exact ⟨k, cs, rs, Nat.le_trans hk e, h4⟩
theorem Dw.off {H : Hp} {d r c a : Addr} {n : Nat} (h : Dw H d r c n) (ha : H a = none) : a ≠ d ∧ a ≠ r ∧ a ≠ c := by
  obtain ⟨k, cs, rs, hk, h1, h2, h3, h4⟩ := h.ex
  exact ⟨fun z => (by rw [z, h1] at ha; cases ha), fun z => (by rw [z, h3] at ha; cases ha), fun z => (by rw [z, h2] at ha; cases ha)⟩
theorem Dw.put {H : Hp} {d r c a : Addr} {n : Nat} {o : HO} (h : Dw H d r c n) (e : a ≠ d ∧ a ≠ r ∧ a ≠ c) : Dw (upd H a o) d r c n := by
  obtain ⟨k, cs, rs, hk, h1, h2, h3, h4⟩ := h.ex
  exact ⟨k, cs, rs, hk, by rw [upd_ne e.1.symm]; exact h1, by rw [upd_ne e.2.2.symm]; exact h2, by rw [upd_ne e.2.1.symm]; exact h3, h4⟩
theorem Fm.ktw {K : PySem.W.Frag} {H H' : Hp} {d r c : Addr} {n : Nat} (e : Fm d r H H') (h : Dw H d r c n) : KT K H H' := by
  obtain ⟨k, cs, rs, hk, h1, h2, h3, h4⟩ := h.ex
  intro a xs q
  rcases q with (q | ⟨o, q⟩) | q
  · refine .inl (.inl (e _ _ (fun z => ?_) (fun z => ?_) q))
    · rw [z, h1] at q; cases q
    · rw [z, h3] at q; cases q
  · refine .inl (.inr ⟨o, e _ _ (fun z => ?_) (fun z => ?_) q⟩)
    · rw [z, h1] at q; cases q
    · rw [z, h3] at q; cases q
  · exact .inr q
theorem Fm.put1 {d l a : Addr} {H H' : Hp} {o : HO} (h : Fm d l H H') (ha : H a = none) : Fm d l H (upd H' a o) := fun b u n1 n2 e => by
  rw [upd_ne (ne_of_none e ha)]
  exact h b u n1 n2 e
theorem erase_prm {rs : List Int} {k : Nat} (h : k < rs.length) : (rs[k] :: rs.eraseIdx k).Perm rs := by
  induction rs generalizing k with
  | nil => exact absurd h (Nat.not_lt_zero _)
  | cons a r ih =>
    cases k with
    | zero => exact List.Perm.refl _
    | succ k =>
      have h' : k < r.length := by rw [List.length_cons] at h; omega
      exact (List.Perm.swap _ _ _).trans (List.Perm.cons a (ih h'))
theorem erase_mp : ∀ (rs : List Int) (k : Nat), (rs.map V.int).eraseIdx k = (rs.eraseIdx k).map V.int
  | [], _ => rfl
  | a :: r, 0 => rfl
  | a :: r, k + 1 => congrArg (V.int a :: ·) (erase_mp r k)
theorem modIn {x m : Int} (h : 0 < m) : 0 ≤ x % m ∧ x % m < m := ⟨Int.emod_nonneg x (by omega), Int.emod_lt_of_pos x h⟩
theorem rgVrng (m : Nat) : rgV 0 (m : Int) = (rng m).map V.int := by
  unfold rgV rng
  rw [List.map_map]
  have e : ((m : Int) - 0).toNat = m := by omega
  rw [e]
  refine List.map_congr_left fun i _ => ?_
  show V.int (0 + (i : Int)) = V.int (Int.ofNat i)
  rw [Int.zero_add]
  rfl
theorem decInt (a b : Int) : decide (V.int a = V.int b) = decide (a = b) := by
  by_cases h : a = b
  · subst h; simp
  · have : ¬ V.int a = V.int b := fun z => h (V.int.inj z)
    rw [decide_eq_false h, decide_eq_false this]
theorem cut63 {ns : List Int} (h : ns.length ≤ 63) : cutV (ns.map V.int) none (some 63) = ns.map V.int := by
  unfold cutV
  rw [HT.sIx_none, show HT.sIx (ns.map V.int).length (ns.map V.int).length (some 63) = min 63 (ns.map V.int).length from HT.sIx_nat _ _ 63]
  rw [List.drop_zero]
  exact List.take_of_length_le (by rw [List.length_map]; omega)
theorem shaped_forD (m : Nat) (es : List (Int × Int)) : SeqAt.shaped (forD m es) = true := by
  have h1 : ∀ l : List (Int × Int), PyData.depthAll (l.map prD) ≤ 1 := by
    intro l
    induction l with
    | nil => simp [PyData.depthAll]
    | cons p l ih =>
      simp only [List.map_cons, PyData.depthAll]
      exact Nat.max_le.mpr ⟨by simp [prD, PyData.depth, PyData.depthAll], ih⟩
  have h2 := h1 es
  have h : (forD m es).depth ≤ 64 := by
    simp only [forD, prsD, PyData.depth, PyData.depthAll]
    omega
  unfold SeqAt.shaped
  rw [decide_eq_true h, Bool.and_true]
  simp only [forD, prsD, PyData.canLay0, PyData.canLayAll0, lay_prs, Bool.and_self, Bool.and_true]
theorem idx_back {m : Nat} {ns : List Int} (h : ns.Perm (rng m)) {v : Int} (v0 : 0 ≤ v) (v1 : v < m) : nam ((rng m).map fun u => ((ns.idxOf u : Nat) : Int)) (nam ns v) = v := by
  have hn := nam_in h ⟨v0, v1⟩
  have nd : ns.Nodup := h.nodup_iff.mpr (rng_asc m).nodup
  have hl : v.toNat < ns.length := by rw [perm_len h]; omega
  have e1 : nam ns v = ns[v.toNat] := by
    unfold nam
    rw [List.getD_eq_getElem?_getD, List.getElem?_eq_getElem hl]
    rfl
  have e2 : (rng m)[(nam ns v).toNat]? = some (nam ns v) := by
    unfold rng
    rw [List.getElem?_map, List.getElem?_range (by omega)]
    show some (Int.ofNat (nam ns v).toNat) = _
    congr 1
    simp only [Int.ofNat_eq_natCast]
    omega
  have e3 : ns.idxOf (nam ns v) = v.toNat := by
    rw [e1]
    exact nd.idxOf_getElem _ hl
  show ((rng m).map fun u => ((ns.idxOf u : Nat) : Int)).getD (nam ns v).toNat 0 = v
  rw [List.getD_eq_getElem?_getD, List.getElem?_map, e2]
  show ((ns.idxOf (nam ns v) : Nat) : Int) = v
  rw [e3]
  omega
theorem nam_at {m : Nat} {ns : List Int} (h : ns.length = m) {v : Int} (v0 : 0 ≤ v) (v1 : v < m) : atI (ns.map V.int) v = some (.int (nam ns v)) := by
  have hl : v.toNat < ns.length := by omega
  refine at_of (j := v.toNat) (by omega) ?_
  unfold nam
  rw [List.getElem?_map, List.getD_eq_getElem?_getD, List.getElem?_eq_getElem hl]
  rfl
end TL
namespace TL
open PySem PySem.Spec PyProof.Rows L2
/-! ### methods of a tuple: the tuple is laid with its very object, so that it is known to have no dict -/
def rTupF (K : PySem.W.Frag) : List V → Hp → VK → Prop := fun xs H Q => ∃ p ys, xs = [.ref p] ∧ SqL K H p ys ∧
  ∀ l ob, H l = none → ob.dict = none → Q (.ref l) (upd H l (.frz ob (.tup ys)))
/-- the value is a tuple laid so -/
def FrzT (x : V) (H : Hp) : Prop := ∃ p ob xs, x = .ref p ∧ H p = some (.frz ob (.tup xs)) ∧ ob.dict = none
def tBMF (r : V → List V → Hp → VK → Prop) (to : TE) (t : TA) : TE := fun σ H Q => to σ H fun x G => FrzT x G ∧ t σ G fun ys G2 => r x ys G2 Q
section
variable {X : Cx}
theorem call_tupF : CallR X (.type "tuple") (rTupF X.K) := by
  intro pins s σ H xs us Q I rr ⟨p, ys, ex, hq, q⟩
  subst ex
  obtain ⟨u, eu, rx⟩ := vals1 rr
  subst eu
  cases rx
  obtain ⟨its, rv, pl, hz⟩ := I.list hq
  have ln := rv.length
  refine call_tuple_list pl.isList (fun G kp => ?_) (by rw [List.size_toArray]; omega)
  have J : Inv X pins σ H { s with heap := G } := I.kept (t' := s.toks) kp
  let ob : Obj := { cls := .type "tuple", data := .seq its.toArray }
  have at0 : (G.push ob).get? G.objs.size = some ob := Heap.get?_push_size _ rfl
  have new : ObjOk X.prog X.w (upd H G.objs.size (.frz ob (.tup ys))) (G.push ob) G.objs.size (.frz ob (.tup ys)) := ⟨at0, hz, its, rv, ob, at0, rfl, _, rfl⟩
  have J2 := J.laid (t' := s.toks) (h' := G.push ob) (fun b o e => Heap.get?_push_of_some _ e) (Nat.le_refl _) new
  exact ⟨.ref G.objs.size, _, J2, rfl, q _ ob (J.hok.fresh (Nat.le_refl _)) rfl⟩
theorem frz_is {pins : List (Addr × Obj)} {σ : L2.St} {H : Hp} {s : Shared} {x : V} {v : Value} (I : Inv X pins σ H s) (rx : RelV x v) (f : FrzT x H) :
    s.TypeIs v "tuple" ∧ ∀ a, v = .ref a → ∃ o, s.heap.get? a = some o ∧ o.dict = none := by
  obtain ⟨p, ob, xs, ex, hp, nd⟩ := f
  subst ex
  cases rx
  obtain ⟨g, _, its, _, o, ho, hc, _⟩ := I.hok p _ hp
  exact ⟨⟨o, ho, hc⟩, fun a e => by cases e; exact ⟨ob, g, nd⟩⟩
theorem pe_bmF {o e : Expr} {es : List Expr} {to : TE} {t : TA} {name : Str} {apos cpos : Pos} {id : String} {r : V → List V → Hp → VK → Prop}
    (slot : Slot "tuple" name id) (hty : typeOf (.builtin id) = pure (.type "method_descriptor")) (hm : MtR X id r) (ho : PE X o to) (ha : PA X (e :: es) t)
    (hbase : attributeBase o name X.env (eval o X.env) = eval o X.env := by rfl)
    (few : ((backTo cpos (starEach (e :: es) X.env)).all (fun z => !z.1) && (backToKw cpos (keywordEach [] X.env)).all (fun z => z.1.isSome)
      && decide ((e :: es).length + ([] : List Keyword).length + (if ([] : List Keyword).isEmpty then 0 else 1) < 30)) = true := by rfl)
    (hline : (apos.endLine == cpos.line) = true := by rfl) (hst : starEach (e :: es) X.env = (false, eval e X.env) :: starEach es X.env := by rfl)
    (hpl : (backTo cpos (starEach es X.env)).any (·.1) = false := by rfl) :
    PE X (.Call (.Attribute o name apos) (e :: es) [] cpos) (tBMF r to t) := by
  constructor
  intro pins s σ H Q I h
  refine wpAny_Call_method_late hbase few hline rfl (thn (ho.run pins s σ H _ I h) fun v s1 got => ?_)
  obtain ⟨x, H1, J, rx, fz, rest⟩ := got
  have ty := frz_is J rx fz
  refine ⟨"tuple", id, PySem.F.plainAttrs_tuple, slot, hty, ty.1, ty.2, ?_⟩
  have args := ha.run cpos pins s1 σ H1 _ J rest
  rw [hst] at args ⊢
  have noStar : ((false, eval e X.env) :: backTo cpos (starEach es X.env)).any (·.1) = false := by
    rw [List.any_cons, hpl]
    rfl
  refine Calls.callWith_builtin (by exact noStar) (Calls.evalArgs_plain (thn args fun us s2 got2 => ?_))
  obtain ⟨vs, H2, J2, r2, q2⟩ := got2
  exact hm pins s2 σ H2 x vs v us Q J2 rx r2 q2
theorem tupFK (K : PySem.W.Frag) (h : X.K = K := by rfl) : CallR X (.type "tuple") (rTupF K) := h ▸ call_tupF
end
theorem lay_forD (m : Nat) (es : List (Int × Int)) : (forD m es).canLay0 = true := by
  simp only [forD, prsD, PyData.canLay0, PyData.canLayAll0, lay_prs, Bool.and_self, Bool.and_true]
theorem frz_T {K : PySem.W.Frag} {H : Hp} {p : Addr} {ob : Obj} {xs : List V} (h : H p = some (.frz ob (.tup xs))) : SqT K H p xs := .inl (.inr ⟨ob, h⟩)
end TL
namespace TL
open PySem PySem.Spec PyProof.Rows L2
/-- a new object where nothing stood -/
theorem Inv.laidN {X : Cx} {pins : List (Addr × Obj)} {σ : L2.St} {H : Hp} {s : Shared} {h' : Heap} {a : Addr} {o : HO} {t' : Nat} (I : L2.Inv X pins σ H s) (k : ∀ b u, s.heap.get? b = some u → h'.get? b = some u) (hg : s.heap.get? a = none)
    (new : ObjOk X.prog X.w (upd H a o) h' a o) : L2.Inv X pins σ (upd H a o) { s with heap := h', toks := t' } := by
  have hn : H a = none := I.hok.gone hg
  refine I.un { keep := fun b u q _ _ _ => k b u q, slot := fun b u q _ _ _ => ⟨u.slots, k b u q⟩, free := fun b u q n _ => ?_, there := fun b u q _ => ⟨u, k b u q⟩, tups := fun b xs q => ?_, frzs := fun b u xs q => ?_, tbls := fun b ps q => ⟨#[], ?_⟩ } fun b u e => ?_
  · rw [upd_ne fun e => by rw [e, hg] at q; cases q]
    exact n
  · rw [upd_ne (ne_of_none q hn)]
    exact q
  · rw [upd_ne (ne_of_none q hn)]
    exact q
  · rw [upd_ne (ne_of_none q hn), q]
    simp
  · by_cases hb : b = a
    · subst hb
      rw [upd_same] at e
      cases e
      exact new
    · rw [upd_ne hb] at e
      exact (I.hok b u e).stay (fun c v _ q => k c v q) (fun c q => by rw [upd_ne (ne_of_none q hn)]; exact q) fun c xs q => by rw [upd_ne (ne_of_none q hn)]; exact q
/-! ### dicts whose keys are tuples of ints -/
section
variable {X : Cx}
/-- {k: v}, k a tuple -/
def tDisp1T (tk tv : TE) : TE := fun σ H Q => ∀ p, H p = none → tPairs [(tk, tv)] σ (upd H p (.dT [])) fun ps H2 => ∃ (b : Addr) (k : List Key) (y : V), ps = [(.ref b, y)] ∧ H2 p = some (.dT []) ∧ H2 b = some (.tup (k.map kV)) ∧ Q (.ref p) (upd H2 p (.dT [(k, y)]))
theorem pe_disp1T {pos : Pos} {k v : Expr} {tk tv : TE} (hu : X.A.units + 1 < cLine) (hk : PE X k tk) (hv : PE X v tv) : PE X (.Dict [some k] [v] pos) (tDisp1T tk tv) := by
  refine ⟨fun pins s σ H Q I q => ?_⟩
  have hn := I.hok.fresh (Nat.le_refl s.heap.objs.size)
  have I1 := I.laid (a := s.heap.objs.size) (o := .dT []) (h' := s.heap.push { cls := .type "dict", data := .dict #[] }) (t' := s.toks) (fun _ _ q => Heap.get?_push_of_some _ q) (Nat.le_refl _) (dt_empty s.heap I.big)
  have hp : PPs X pos [some k] [v] [(tk, tv)] := pps_cons hk hv pps_nil
  rw [arm_eval_Dict, zip_pairTrees [some k] [v] X.env pos rfl rfl, dictDisplay_pairs (pairTrees [some k] [v] X.env pos) (by intro z; cases z) (by show 1 < 17; decide)]
  refine wpAny_bind (wpAny_standAt (wpAny_bind (wpAny_subDictH (knd := tupleKind (mixKind X.prog X.w)) (Q := fun d s' => wpAny (model X.prog X.w) X.A (pure (Value.ref d)) (EP X pins σ Q) X.xe s') ?_ (by show 1 ≤ 15; decide) (thn (hp.run pins _ σ _ _ I1 (q _ hn)) fun ws s2 ⟨ps, H2, I2, rel, b, k', y, ep, e, eb, q2⟩ => ?_))))
  · show X.A.units < cLine
    omega
  · subst ep
    cases rel with
    | @cons _ w _ _ r1 r2 =>
      cases r2
      obtain ⟨u1, u2⟩ := w
      obtain ⟨ra, rb⟩ := r1
      cases ra
      obtain ⟨z, hd, xs, r0, dd⟩ := dt_of I2.hok e
      cases r0
      refine ⟨[(k', b, u2)], ⟨rfl, rfl, key_of I2.hok eb, trivial⟩, dd, fun h' tk dd' hs => wpAny_pure ⟨.ref s.heap.objs.size, _, ?_, rfl, q2⟩⟩
      obtain ⟨o, es, ep, hq, h2, h3, h4, _, h5⟩ := dd'
      refine d_write I2 (by rw [e]; exact True.intro) hs ⟨o, hq⟩ ⟨by show 1 ≤ sizeLine; decide, hd, [(k', b, u2)], .cons ⟨rfl, ?_, rb⟩ .nil, o, es, ep, hq, h2, h3, h4, h5⟩
      rw [upd_ne (ne_of eb e (fun z => nomatch z))]
      exact eb
end
/-! ### list.sort of rows of ints: none is empty, or there is one alone -/
section
open PySem.W
variable {prog : Program} {w : World} {A : Around} {E : Value → Shared → Prop} {s : Shared}
theorem allAlike_rows (bs : List (List Int)) : AllAlike (bs.map intsD) := by
  intro d hd e he
  obtain ⟨x, _, rfl⟩ := List.mem_map.mp hd
  obtain ⟨y, _, rfl⟩ := List.mem_map.mp he
  simp only [intsD, alike]
  exact alike_ints x y
theorem sortsAt_rows {vs : List Value} {bs : List (List Int)} (e : EachIs (fun v b => ∃ as, Reads s.heap v (intsD b) as) vs bs) (hk : (∀ b ∈ bs, b ≠ []) ∨ bs.length ≤ 1) (hu : A.units + 50 < cLine) : SortsAt prog w A s (dataKind s.heap (bs.map intsD)) vs := by
  have dep : ∀ b : List Int, (intsD b).depth ≤ 1 := fun b => by
    simp only [intsD, PyData.depth, dep_ints]
    decide
  have usual : (∀ b ∈ bs, b ≠ []) → SortsAt prog w A s (dataKind s.heap (bs.map intsD)) vs := fun hne =>
    SortsAt.data (each_map (R := fun v d => ∃ as, Reads s.heap v d as) intsD e) (allAlike_rows bs) (.inl fun d hd => by
      obtain ⟨x, hx, rfl⟩ := List.mem_map.mp hd
      cases x with
      | nil => exact absurd rfl (hne _ hx)
      | cons i r => exact ⟨_, _, rfl⟩) (fun d hd => by
      obtain ⟨x, hx, rfl⟩ := List.mem_map.mp hd
      have := dep x
      omega)
  rcases hk with hk | hk
  · exact usual hk
  · match bs, hk with
    | [], _ => exact usual fun _ z => nomatch z
    | [b], _ =>
      by_cases hb : b = []
      · subst hb
        have lv : vs.length = 1 := e.length
        refine ⟨fun v hv => ?_, tuples' true, ?_, fun h2 => absurd h2 (by omega)⟩
        · obtain ⟨b, hb, as, r⟩ := e.left v hv
          exact ⟨_, dataKind_some (allAlike_rows _) (List.mem_map.mpr ⟨b, hb, rfl⟩) r⟩
        · intro E x y a b Q ha hb hq
          obtain ⟨d, as, hd, ra, rfl⟩ := dataKind_inv ha
          obtain ⟨d', as', hd', rb, rfl⟩ := dataKind_inv hb
          obtain rfl : d = .tuple [] := List.mem_singleton.mp hd
          obtain rfl : d' = .tuple [] := List.mem_singleton.mp hd'
          have hq' : Q (dataLt (.tuple []) (.tuple [])) s := hq
          rw [dataLt_tuple] at hq'
          cases ra with
          | @tuple l o xs n _ _ h1 h2 h3 h4 =>
            cases rb with
            | @tuple l' o' xs' n' _ _ k1 k2 k3 k4 =>
              have n1 : xs.size = 0 := by simpa using SeqAt.ReadsAll.length _ _ _ h4
              have n2 : xs'.size = 0 := by simpa using SeqAt.ReadsAll.length _ _ _ k4
              refine kat_lt h1 h3 k1 k3 (katLex_alike [] [] 0 _ _ _ _ h4 k4 (by simp [alikeAll]) (by simp [PyData.depthAll]; omega) (fun _ _ x r t ex => nomatch ex) (by rw [n1, n2]; rfl) hq')
      · exact usual fun z hz => by rw [List.mem_singleton.mp hz]; exact hb
    | _ :: _ :: _, hk => exact absurd hk (by simp)
theorem sort_rows {R : Value → List Int → Prop} {a : Addr} {vs : List Value} {bs : List (List Int)} {n : Nat} {Q : Value → Shared → Prop} (ho : s.heap.get? a = some (seqObj "list" vs.toArray n)) (e : EachIs R vs bs)
    (er : EachIs (fun v b => ∃ as, Reads s.heap v (intsD b) as ∧ a ∉ as) vs bs) (hk : (∀ b ∈ bs, b ≠ []) ∨ bs.length ≤ 1) (hL : bs.length ≤ sizeLine) (hu : A.units + 60 < cLine)
    (h : ∀ out, out.length = bs.length → EachIs R out (bs.mergeSort (dataLe false intsD)) → Q .none { s with heap := sortedHeap s.heap a vs (List.toArray out) }) :
    wpAny (model prog w) A (call (.builtin "list.sort") [.ref a]) Q E s := by
  have er' : EachIs (fun v b => ∃ as, Reads (sortingHeap s.heap a vs) v (intsD b) as) vs bs := each_keepBut (h' := sortingHeap s.heap a vs) (fun _ _ hb q => sortingHeap_old hb q) (fun o q => by rw [ho] at q; rw [← Option.some.inj q]) (allAlike_rows _) er
  refine wpAny_call_entry slot_list_sort ⟨_, ho, rfl⟩ entry_list_sort (list_sort_vals (κ := dataKind (sortingHeap s.heap a vs) (bs.map intsD)) ho (sortsAt_rows (s := { s with heap := sortingHeap s.heap a vs }) er' hk (by show A.units + 1 + 50 < cLine; omega)) (by rw [e.length]; exact hL) ⟨.none, rfl, ?_⟩) (args_list_sort _)
  exact h _ (by rw [sortVals_length false rfl]; exact e.length) (sortVals_data false e er' (allAlike_rows _))
theorem sorted_rows {R : Value → List Int → Prop} {l : Addr} {vs : List Value} {bs : List (List Int)} {Q : Value → Shared → Prop} (hl : s.heap.IsList l vs.toArray) (e : EachIs R vs bs)
    (er : EachIs (fun v b => ∃ as, Reads s.heap v (intsD b) as) vs bs) (hk : (∀ b ∈ bs, b ≠ []) ∨ bs.length ≤ 1) (hL : bs.length ≤ sizeLine) (hu : A.units + 60 < cLine)
    (h : ∀ out, out.length = bs.length → EachIs R out (bs.mergeSort (dataLe false intsD)) → Q (.ref (s.heap.objs.size + 1)) { s with heap := sortedAll s.heap vs (List.toArray out) }) :
    wpAny (model prog w) A (call (.builtin "sorted") [.ref l]) Q E s := by
  have er' : EachIs (fun v b => ∃ as, Reads (sortingHeap (copyHeap s.heap vs) (s.heap.objs.size + 1) vs) v (intsD b) as) vs bs := er.mono fun _ _ ⟨as, r⟩ => ⟨as, PyProof.Rows.Reads.keeps (fun _ _ => sorting_copy_old) r⟩
  exact sorted_vals hl (sortsAt_rows (s := { s with heap := sortingHeap (copyHeap s.heap vs) (s.heap.objs.size + 1) vs }) er' hk (by show A.units + 1 + 1 + 50 < cLine; omega)) (by rw [e.length]; exact hL)
    (h _ (by rw [sortVals_length false rfl]; exact e.length) (sortVals_data false e er' (allAlike_rows _)))
end
/-! ### sorted, of such rows in a list, in a dict -/
@[irreducible] def rSortRows (K : PySem.W.Frag) : List V → Hp → VK → Prop := fun vs H Q => ∃ (bs : List (List Int)) (a : Addr) (xs : List V), vs = [.ref a] ∧ SqL K H a xs ∧ DpAll K H xs (bs.map intsD) ∧ ((∀ b ∈ bs, b ≠ []) ∨ bs.length ≤ 1) ∧ bs.length ≤ 5000 ∧
  ∀ p ys, H p = none → DpAll K H ys ((bs.mergeSort (PySem.W.dataLe false intsD)).map intsD) → Q (.ref p) (upd H p (.lst ys))
def kI (r : List Int) : List Key := r.map Sum.inl
theorem kI_kV (r : List Int) : (kI r).map kV = r.map V.int := by
  unfold kI
  rw [List.map_map]
  rfl
theorem kI_inj {r q : List Int} (h : kI r = kI q) : r = q := by
  unfold kI at h
  exact List.map_inj_right (fun a b e => Sum.inl.inj e) |>.mp h
/-- a dict of ints by rows -/
def KD (kvs : List (List Key × V)) (bs : List (List Int)) : Prop := kvs.map (·.1) = bs.map kI ∧ ∀ kv ∈ kvs, ∃ i : Int, kv.2 = .int i
@[irreducible] def rSortDT (K : PySem.W.Frag) : List V → Hp → VK → Prop := fun vs H Q => ∃ (kvs : List (List Key × V)) (bs : List (List Int)) (a : Addr), vs = [.ref a] ∧ H a = some (.dT kvs) ∧ kvs.map (·.1) = bs.map kI ∧ ((∀ b ∈ bs, b ≠ []) ∨ bs.length ≤ 1) ∧ bs.length ≤ 5000 ∧
  ∀ p ys, H p = none → DpAll K H ys ((bs.mergeSort (PySem.W.dataLe false intsD)).map intsD) → Q (.ref p) (upd H p (.lst ys))
section
variable {X : Cx}
theorem cr_sortRows (hu : X.A.units + 64 < cLine) : CallR X (.builtin "sorted") (rSortRows X.K) := by
  intro pins s σ H vs us Q I r h
  unfold rSortRows at h
  obtain ⟨bs, a, xs, rfl, hs, ha, so, hl5, q⟩ := h
  cases r with
  | cons r1 r2 =>
    cases r2
    rename_i u
    obtain rfl : u = Value.ref a := r1
    obtain ⟨its, rv, hl, hz⟩ := I.list hs
    have e1 := each_of intsD rv ha
    have lb : xs.length = bs.length := by rw [DpAll.length ha, List.length_map]
    have e2 : PySem.W.EachIs (fun v b => ∃ as, Reads s.heap v (intsD b) as) its bs :=
      e1.mono fun u b ⟨x, rx, hx⟩ => Dp.reads I _ x u hx rx
    refine sorted_rows hl.isList e1 e2 so (by omega) (by omega) fun out hlen eo => ?_
    obtain ⟨ys, ry, dy⟩ := of_each intsD eo
    obtain ⟨c, hc⟩ := PyProof.Rows.sortedAll_at s.heap its out.toArray
    have fr : H (s.heap.objs.size + 1) = none := I.hok.fresh (Nat.le_succ _)
    refine ⟨.ref (s.heap.objs.size + 1), upd H (s.heap.objs.size + 1) (.lst ys), I.laid (t' := s.toks) (fun _ _ => PyProof.Rows.sortedAll_old) (Nat.le_succ _) ?_, rfl, q _ ys fr dy⟩
    exact ⟨by have := ry.length; omega, out, c, ry, hc⟩
theorem reads_vals {h : Heap} : ∀ {r : List Int} {its : List Value}, Vals (r.map V.int) its → ReadsAll h its (r.map .int) []
  | [], _, h => by cases h; exact .nil
  | n :: r, _, h => by
    rw [List.map_cons] at h
    cases h with
    | cons h1 h2 =>
      obtain ⟨t, rfl⟩ := h1
      exact ReadsAll.cons (as := []) (bs := []) (.int n t) (reads_vals h2)
theorem each_keys {P : Program} {w : World} {K : PySem.W.Frag} {H : Hp} : ∀ {kvs : List (List Key × V)} {ks : List (List Key × Addr × Value)} {bs : List (List Int)},
    Paired (fun (p : List Key × V) (q : List Key × Addr × Value) => p.1 = q.1 ∧ H q.2.1 = some (.tup (p.1.map kV)) ∧ RelV p.2 q.2.2) kvs ks → kvs.map (·.1) = bs.map kI →
    PySem.W.EachIs (fun (u : Value) (b : List Int) => ∃ a, u = Value.ref a ∧ H a = some (.tup (b.map V.int))) (ks.map fun x => Value.ref x.2.1) bs
  | [], _, bs, p, e => by
    cases p
    cases bs with
    | nil => exact .nil
    | cons _ _ => cases e
  | kv :: kvs, _, bs, p, e => by
    cases p with
    | cons h1 h2 =>
      cases bs with
      | nil => cases e
      | cons b bs =>
        rw [List.map_cons, List.map_cons] at e
        injection e with e1 e2
        refine .cons ⟨_, rfl, ?_⟩ (each_keys (P := P) (w := w) (K := K) h2 e2)
        have h := h1.2.1
        rw [e1, kI_kV] at h
        exact h
theorem cr_sortDT (hc : X.calm = true) (hu : X.A.units + 64 < cLine) : CallR X (.builtin "sorted") (rSortDT X.K) := by
  intro pins s σ H vs us Q I r h
  unfold rSortDT at h
  obtain ⟨kvs, bs, a, rfl, ha, hkb, so, hl5, q⟩ := h
  obtain ⟨u, rfl, rx⟩ := r.one
  cases rx
  obtain ⟨z, hs, ks, pr, o, es, ep, ho, hx, hdt, he, hn⟩ := (show ObjOk X.prog X.w H s.heap a (.dT kvs) from I.hok a _ ha)
  have l1 : es.size = ks.length := size_of_entries he
  have l2 : kvs.length = ks.length := Paired.length pr
  have lb : ks.length = bs.length := by
    have := congrArg List.length hkb
    rw [List.length_map, List.length_map] at this
    omega
  refine Calls.call_function_entry kind_sorted plain_sorted entry_sorted (args_sorted1 _) ?_
  unfold Builtin.«sorted»
  refine wpAny_bind (m := checkCount "sorted" 1 1 _) (wpAny_pure ?_)
  refine wpAny_bind (PySem.W.kdu_collect (A := X.A.in1) (kdl_raw hs hx hdt) (I.ok.hd hc) ho (by omega) fun h' tk acc kp it => ?_)
  have ea : acc.toList = ks.map fun x => Value.ref x.2.1 := by
    have hl : acc.toList.length = ks.length := by rw [Array.length_toList, it.1]; exact l1
    apply List.ext_getElem?
    intro j
    rw [List.getElem?_map]
    cases hj : acc.toList[j]? with
    | none =>
      have h1 := List.getElem?_eq_none_iff.mp hj
      rw [List.getElem?_eq_none (by omega)]
      all_goals rfl
    | some v =>
      obtain ⟨en, hen, hv⟩ := it.2 j v (by rw [← Array.getElem?_toList]; exact hj)
      have qe := entry_at he j
      rw [hen] at qe
      cases hb : ks[j]? with
      | none =>
        rw [hb] at qe
        exact nomatch (show some en = none from qe)
      | some b =>
        rw [hb] at qe
        have e2 : en = entryOfKey (tupleKind (mixKind X.prog X.w)) b := Option.some.inj qe
        rw [hv, e2]
        all_goals rfl
  have ek := each_keys (P := X.prog) (w := X.w) (K := X.K) pr hkb
  rw [← ea] at ek
  generalize hL : acc.toList = L1 at ek
  have lL : L1.length = bs.length := ek.length
  refine wpAny_bind (wpAny_newList ?_ (by rw [sizeLine_eq]; omega))
  have hoL : (h'.push (seqObj "list" L1.toArray 0)).get? h'.objs.size = some (seqObj "list" L1.toArray 0) := Heap.get?_push_size _ rfl
  have e1 : PySem.W.EachIs (fun (u : Value) (b : List Int) => ∃ x, RelV x u ∧ Dp X.K H x (intsD b)) L1 bs := ek.mono fun u b ⟨a, eu, hb⟩ => ⟨.ref a, eu, Dp.ints (SqT.of hb)⟩
  have e2 : PySem.W.EachIs (fun (u : Value) (b : List Int) => ∃ as, Reads (h'.push (seqObj "list" L1.toArray 0)) u (intsD b) as ∧ h'.objs.size ∉ as) L1 bs := ek.mono fun u b ⟨a, eu, hb⟩ => by
    subst eu
    obtain ⟨_, its, rv, oq, hoq, hcq, n, hdq⟩ := (show ObjOk X.prog X.w H s.heap a (.tup (b.map V.int)) from I.hok a _ hb)
    exact ⟨[], .tuple (Heap.get?_push_of_some _ (kp _ _ hoq)) hcq hdq (reads_vals (by simpa using rv)), fun z => nomatch z⟩
  refine wpAny_bind (wpAny_holding (sort_rows (A := X.A.in1) (s := { s with heap := h'.push (seqObj "list" L1.toArray 0), toks := tk }) hoL e1 e2 so (by rw [sizeLine_eq]; omega) (by show X.A.units + 1 + 60 < cLine; omega) fun out ho2 eo => ?_))
  obtain ⟨ys, ry, dy⟩ := of_each intsD eo
  obtain ⟨c, hc2⟩ := sortedHeap_at (vs := L1) (out := out.toArray) hoL
  have hz : s.heap.get? h'.objs.size = none := by
    cases e : s.heap.get? h'.objs.size with
    | none => rfl
    | some u => exact absurd (Heap.lt_size (kp _ _ e)) (Nat.lt_irrefl _)
  have hnn : H h'.objs.size = none := I.hok.gone hz
  have hq : ∀ b o, s.heap.get? b = some o → (sortedHeap (h'.push (seqObj "list" L1.toArray 0)) h'.objs.size L1 out.toArray).get? b = some o := fun b u e => by
    have q := kp b u e
    have hlt := Heap.lt_size q
    rw [sortedHeap_old (Nat.ne_of_lt hlt) (by rw [size_push']; exact Nat.lt_succ_of_lt hlt)]
    exact Heap.get?_push_of_some _ q
  have hlen : ys.length ≤ sizeLine := by rw [ry.length, ho2, sizeLine_eq]; omega
  have J : L2.Inv X pins σ (upd H h'.objs.size (.lst ys)) { s with heap := sortedHeap (h'.push (seqObj "list" L1.toArray 0)) h'.objs.size L1 out.toArray, toks := tk } := Inv.laidN I hq hz ⟨hlen, out, c, ry, hc2⟩
  exact wpAny_pure ⟨_, rfl, ⟨.ref h'.objs.size, _, J, rfl, q _ ys hnn dy⟩⟩
end
section
variable {X : Cx}
theorem sortRowsK (K : PySem.W.Frag) (hu : X.A.units + 64 < cLine) (h : X.K = K := by rfl) : CallR X (.builtin "sorted") (rSortRows K) := h ▸ cr_sortRows hu
theorem sortDTK (K : PySem.W.Frag) (hu : X.A.units + 64 < cLine) (hc : X.calm = true := by rfl) (h : X.K = K := by rfl) : CallR X (.builtin "sorted") (rSortDT K) := h ▸ cr_sortDT hc hu
end
/-! ### looking up rows -/
theorem KD.val {kvs : List (List Key × V)} {bs : List (List Int)} (h : KD kvs bs) (r : List Int) : (r ∈ bs ∧ ∃ i : Int, valV kvs (kI r) = some (.int i)) ∨ (r ∉ bs ∧ valV kvs (kI r) = none) := by
  obtain ⟨h1, h2⟩ := h
  induction kvs generalizing bs with
  | nil =>
    cases bs with
    | nil => exact .inr ⟨(fun z => nomatch z), rfl⟩
    | cons _ _ => cases h1
  | cons p kvs ih =>
    cases bs with
    | nil => cases h1
    | cons b bs =>
      rw [List.map_cons, List.map_cons] at h1
      injection h1 with e1 e2
      obtain ⟨i, hi⟩ := h2 p List.mem_cons_self
      by_cases e : b = r
      · subst e
        exact .inl ⟨List.mem_cons_self, i, by rw [valV_pos e1, hi]⟩
      · have e' : ¬ p.1 = kI r := fun z => e (kI_inj (e1.symm.trans z))
        rw [valV_neg e']
        rcases ih e2 (fun kv hkv => h2 kv (List.mem_cons_of_mem _ hkv)) with ⟨m, j⟩ | ⟨m, j⟩
        · exact .inl ⟨List.mem_cons_of_mem _ m, j⟩
        · exact .inr ⟨fun z => (List.mem_cons.mp z).elim (fun z => e z.symm) m, j⟩
theorem KD.put {kvs : List (List Key × V)} {bs : List (List Int)} (h : KD kvs bs) {r : List Int} (n : r ∉ bs) (i : Int) : KD (putK kvs (kI r) (.int i)) (bs ++ [r]) := by
  have e : valV kvs (kI r) = none := by
    rcases h.val r with ⟨m, _⟩ | ⟨_, e⟩
    · exact absurd m n
    · exact e
  rw [putK_new _ e]
  refine ⟨?_, fun kv hkv => ?_⟩
  · rw [List.map_append, List.map_append, h.1]
    rfl
  · rcases List.mem_append.mp hkv with z | z
    · exact h.2 kv z
    · rw [List.mem_singleton.mp z]
      exact ⟨i, rfl⟩
theorem KD.len {kvs : List (List Key × V)} {bs : List (List Int)} (h : KD kvs bs) : kvs.length = bs.length := by
  have := congrArg List.length h.1
  rw [List.length_map, List.length_map] at this
  exact this
theorem KD.one (r : List Int) (i : Int) : KD [(kI r, .int i)] [r] := ⟨rfl, fun kv h => by rw [List.mem_singleton.mp h]; exact ⟨i, rfl⟩⟩
theorem IsKeys.rows {K : PySem.W.Frag} {H : Hp} : ∀ {kvs : List (List Key × V)} {as : List Addr} {bs : List (List Int)}, IsKeys H kvs as → kvs.map (·.1) = bs.map kI → DpAll K H (as.map V.ref) (bs.map intsD)
  | [], _, bs, p, e => by
    cases p
    cases bs with
    | nil => exact .nil
    | cons _ _ => cases e
  | kv :: kvs, _, bs, p, e => by
    cases p with
    | cons h1 h2 =>
      cases bs with
      | nil => cases e
      | cons b bs =>
        rw [List.map_cons, List.map_cons] at e
        injection e with e1 e2
        rw [e1, kI_kV] at h1
        exact .cons (Dp.ints (SqT.of h1)) (IsKeys.rows h2 e2)
end TL
namespace TL
/-! ### locks: no lamp of it has a neighbour without another one of it -/
def Cl (m : Nat) (es : List (Int × Int)) (T : List Int) : Prop := ∀ x ∈ T, ∀ v ∈ nearL m es x, oth m es T x v ≠ []
theorem Cl.other {m : Nat} {es : List (Int × Int)} {T : List Int} (h : Cl m es T) {x v : Int} (hx : x ∈ T) (hv : v ∈ nearL m es x) : ∃ y ∈ T, y ≠ x ∧ y ∈ nearL m es v := by
  obtain ⟨y, hy⟩ := List.exists_mem_of_ne_nil _ (h x hx v hv)
  obtain ⟨h1, h2, h3⟩ := mem_oth.mp hy
  exact ⟨y, h2, h3, h1⟩
theorem Cl.of {m : Nat} {es : List (Int × Int)} {T : List Int} (h : ∀ x ∈ T, ∀ v ∈ nearL m es x, ∃ y ∈ T, y ≠ x ∧ y ∈ nearL m es v) : Cl m es T := fun x hx v hv e => by
  obtain ⟨y, h1, h2, h3⟩ := h x hx v hv
  have : y ∈ oth m es T x v := mem_oth.mpr ⟨h3, h1, h2⟩
  rw [e] at this
  cases this
structure IsGr (m : Nat) (es : List (Int × Int)) (S G : List Int) : Prop where
  asc : Asc G
  sub : ∀ x ∈ G, x ∈ S
  cl : Cl m es G
  max : ∀ T : List Int, (∀ x ∈ T, x ∈ S) → Cl m es T → ∀ x ∈ T, x ∈ G
theorem IsGr.mono {m : Nat} {es : List (Int × Int)} {S S' G G' : List Int} (h : IsGr m es S G) (h' : IsGr m es S' G') (s : ∀ x ∈ S, x ∈ S') : ∀ x ∈ G, x ∈ G' :=
  h'.max G (fun x hx => s x (h.sub x hx)) h.cl
theorem IsGr.uniq {m : Nat} {es : List (Int × Int)} {S G G' : List Int} (h : IsGr m es S G) (h' : IsGr m es S G') : G = G' :=
  asc_ext h.asc h'.asc fun x => ⟨h.mono h' (fun _ z => z) x, h'.mono h (fun _ z => z) x⟩
theorem IsGr.set {m : Nat} {es : List (Int × Int)} {S G : List Int} (h : IsGr m es S G) (iss : IsSet m es S) : IsSet m es G :=
  ⟨h.asc, fun v hv => iss.rng v (h.sub v hv), fun u hu v hv => iss.free u (h.sub u hu) v (h.sub v hv)⟩
theorem IsGr.self {m : Nat} {es : List (Int × Int)} {S G G' : List Int} (h : IsGr m es S G) (h' : IsGr m es G G') : G' = G :=
  asc_ext h'.asc h.asc fun x => ⟨h'.sub x, h'.max G (fun _ z => z) h.cl x⟩
/-! ### slides and locks -/
theorem IsGr.fixed {m : Nat} {es : List (Int × Int)} {S G : List Int} (h : IsGr m es S G) {u v : Int} (p : (u, v) ∈ slidesP m es S) : u ∉ G ∧ ∀ o ∈ nearL m es v, o ∉ G := by
  obtain ⟨hu, hv, ho⟩ := mem_slidesP.mp p
  have nu : u ∉ G := fun z => by
    obtain ⟨y, y1, y2, y3⟩ := h.cl.other z hv
    have : y ∈ oth m es S u v := mem_oth.mpr ⟨y3, h.sub y y1, y2⟩
    rw [ho] at this
    cases this
  refine ⟨nu, fun o h1 z => ?_⟩
  by_cases e : o = u
  · subst e
    exact nu z
  · have : o ∈ oth m es S u v := mem_oth.mpr ⟨h1, h.sub o z, e⟩
    rw [ho] at this
    cases this
theorem IsGr.none {m : Nat} {es : List (Int × Int)} {S G : List Int} (h : IsGr m es S G) (asc : Asc S) : slidesP m es S = [] ↔ G = S := by
  constructor
  · intro e
    refine asc_ext h.asc asc fun x => ⟨h.sub x, h.max S (fun _ z => z) (fun x hx v hv eo => ?_) x⟩
    have : (x, v) ∈ slidesP m es S := mem_slidesP.mpr ⟨hx, hv, eo⟩
    rw [e] at this
    cases this
  · rintro rfl
    refine List.eq_nil_iff_forall_not_mem.mpr fun p hp => ?_
    obtain ⟨u, v⟩ := p
    exact (h.fixed hp).1 (mem_slidesP.mp hp).1
theorem IsGr.len {m : Nat} {es : List (Int × Int)} {S G : List Int} (h : IsGr m es S G) (asc : Asc S) : G.length ≤ S.length ∧ (G.length < S.length ↔ G ≠ S) := by
  have le : G.length ≤ S.length := h.asc.nodup.length_le_of_subset h.sub
  refine ⟨le, fun z e => ?_, fun ne => ?_⟩
  · rw [e] at z
    exact Nat.lt_irrefl _ z
  · refine Nat.lt_of_le_of_ne le fun e => ne ?_
    refine asc_ext h.asc asc fun x => ⟨h.sub x, fun hx => ?_⟩
    by_cases hg : x ∈ G
    · exact hg
    · exfalso
      have nd : (x :: G).Nodup := List.nodup_cons.mpr ⟨hg, h.asc.nodup⟩
      have := nd.length_le_of_subset (l₂ := S) fun y hy => by
        rcases List.mem_cons.mp hy with rfl | hy
        · exact hx
        · exact h.sub y hy
      rw [List.length_cons] at this
      omega
theorem IsGr.slid {m : Nat} {es : List (Int × Int)} {S G G' : List Int} (f : IsFor m es) (iss : IsSet m es S) (h : IsGr m es S G) {u v : Int} (p : (u, v) ∈ slidesP m es S) (h' : IsGr m es (after S u v) G') : G' = G := by
  have q := slide_back f iss p
  have bk := after_back f iss p
  refine asc_ext h'.asc h.asc fun x => ⟨fun hx => ?_, fun hx => ?_⟩
  · refine h.max G' (fun y hy => ?_) h'.cl x hx
    rcases mem_after.mp (h'.sub y hy) with ⟨h1, _⟩ | h1
    · exact h1
    · exact absurd (h1 ▸ hy) (h'.fixed q).1
  · refine h'.max G (fun y hy => ?_) h.cl x hx
    exact mem_after.mpr (.inl ⟨h.sub y hy, fun e => (h.fixed p).1 (e ▸ hy)⟩)
end TL
namespace TL
/-! ### the lamps that are lit in every setting that can be reached are the greatest lock -/
inductive Rch (m : Nat) (es : List (Int × Int)) (S : List Int) : List Int → Prop
  | refl : Rch m es S S
  | step {T : List Int} {u v : Int} : Rch m es S T → (u, v) ∈ slidesP m es T → Rch m es S (after T u v)
theorem Rch.trans {m : Nat} {es : List (Int × Int)} {S T W : List Int} (h : Rch m es S T) (k : Rch m es T W) : Rch m es S W := by
  induction k with
  | refl => exact h
  | step _ p ih => exact .step ih p
theorem Rch.both {m : Nat} {es : List (Int × Int)} {S T : List Int} (f : IsFor m es) (iss : IsSet m es S) (h : Rch m es S T) : IsSet m es T ∧ Rch m es T S := by
  induction h with
  | refl => exact ⟨iss, .refl⟩
  | @step T u v _ p ih =>
    obtain ⟨isT, back⟩ := ih
    obtain ⟨p1, p2, p3⟩ := mem_slidesP.mp p
    refine ⟨IsSet.after f isT p1 p2 p3, ?_⟩
    have q := Rch.step (.refl) (slide_back f isT p)
    rw [after_back f isT p] at q
    exact q.trans back
theorem near_adj {m : Nat} {es : List (Int × Int)} {a b : Int} (h : a ∈ nearL m es b) : Adj es a b := by
  have := (mem_nearL.mp h).2
  unfold ordP at this
  split at this
  · exact .inl this
  · exact .inr this
/-- the edges without those of a vertex -/
def cutE (es : List (Int × Int)) (v : Int) : List (Int × Int) := es.filter fun p => !decide (p.1 = v) && !decide (p.2 = v)
theorem adj_cut {es : List (Int × Int)} {v a b : Int} : Adj (cutE es v) a b ↔ Adj es a b ∧ a ≠ v ∧ b ≠ v := by
  unfold Adj cutE
  simp only [List.mem_filter, Bool.and_eq_true, Bool.not_eq_true', decide_eq_false_iff_not]
  constructor
  · rintro (⟨h1, h2, h3⟩ | ⟨h1, h2, h3⟩)
    · exact ⟨.inl h1, h2, h3⟩
    · exact ⟨.inr h1, h3, h2⟩
  · rintro ⟨h1 | h1, h2, h3⟩
    · exact .inl ⟨h1, h2, h3⟩
    · exact .inr ⟨h1, h3, h2⟩
theorem Pth.avoid {es : List (Int × Int)} {v a b : Int} {p : List Int} (h : Pth (cutE es v) a b p) : a ≠ v → v ∉ p := by
  induction h with
  | one a => exact fun n z => n (List.mem_singleton.mp z).symm
  | cons ad _ _ ih =>
    intro n z
    rcases List.mem_cons.mp z with z | z
    · exact n z.symm
    · exact ih (adj_cut.mp ad).2.2 z
theorem branch_apart {m : Nat} {es : List (Int × Int)} (f : IsFor m es) {v y z : Int} (hy : y ∈ nearL m es v) (hz : z ∈ nearL m es v) (ny : y ≠ v) (nz : z ≠ v) (c : Conn (cutE es v) y z) : y = z := by
  obtain ⟨p, hp⟩ := c.pth
  have nv := hp.avoid ny
  have hp' : Pth es y z p := hp.mono fun q hq => (List.mem_filter.mp hq).1
  have h1 : Pth es v z (v :: p) := .cons (near_adj hy).symm hp' nv
  have h2 : Pth es v z [v, z] := .cons (near_adj hz).symm (.one z) fun h => nz (List.mem_singleton.mp h).symm
  have e := f.uniq _ _ _ _ h1 h2
  have e2 : p = [z] := (List.cons.inj e).2
  have := hp.first
  rw [e2] at this
  exact List.mem_singleton.mp this
/-- slides inside of a branch at a dark vertex can be done by themselves -/
theorem Rch.inside {m : Nat} {es : List (Int × Int)} (f : IsFor m es) {v : Int} {B : Int → Prop} (hB : ∀ p q, B p → q ∈ nearL m es p → q ≠ v → B q) {T W : List Int} (dark : ∀ W, Rch m es T W → v ∉ W) (h : Rch m es T W) :
    ∃ W', Rch m es T W' ∧ (∀ z, B z → (z ∈ W' ↔ z ∈ W)) ∧ ∀ z, ¬ B z → (z ∈ W' ↔ z ∈ T) := by
  induction h with
  | refl => exact ⟨T, .refl, (fun _ _ => Iff.rfl), fun _ _ => Iff.rfl⟩
  | @step W a b hW p ih =>
    obtain ⟨W', r, h1, h2⟩ := ih
    obtain ⟨ha, hb, ho⟩ := mem_slidesP.mp p
    have na : a ≠ v := fun z => dark _ hW (z ▸ ha)
    have nb : b ≠ v := fun z => dark _ (.step hW p) (mem_after.mpr (.inr z.symm))
    by_cases Ba : B a
    · have Bb := hB a b Ba hb nb
      have q : (a, b) ∈ slidesP m es W' := mem_slidesP.mpr ⟨(h1 a Ba).mpr ha, hb, List.eq_nil_iff_forall_not_mem.mpr fun o z => by
        obtain ⟨o1, o2, o3⟩ := mem_oth.mp z
        have no : o ≠ v := fun z => dark _ r (z ▸ o2)
        have : o ∈ oth m es W a b := mem_oth.mpr ⟨o1, (h1 o (hB b o Bb o1 no)).mp o2, o3⟩
        rw [ho] at this
        cases this⟩
      refine ⟨_, .step r q, fun z Bz => ?_, fun z nz => ?_⟩
      · rw [mem_after, mem_after, h1 z Bz]
      · have za : z ≠ a := fun e => nz (e ▸ Ba)
        have zb : z ≠ b := fun e => nz (e ▸ Bb)
        rw [mem_after, h2 z nz]
        exact ⟨fun h => h.elim (·.1) (fun e => absurd e zb), fun h => .inl ⟨h, za⟩⟩
    · have Bb : ¬ B b := fun h => Ba (hB b a h ((mem_nearL_comm f).mp hb) na)
      refine ⟨W', r, fun z Bz => ?_, h2⟩
      have za : z ≠ a := fun e => Ba (e ▸ Bz)
      have zb : z ≠ b := fun e => Bb (e ▸ Bz)
      rw [mem_after, h1 z Bz]
      exact ⟨fun h => .inl ⟨h, za⟩, fun h => h.elim (·.1) (fun e => absurd e zb)⟩
theorem IsGr.lit {m : Nat} {es : List (Int × Int)} {S G : List Int} (f : IsFor m es) (iss : IsSet m es S) (h : IsGr m es S G) {x : Int} : x ∈ G ↔ ∀ W, Rch m es S W → x ∈ W := by
  constructor
  · intro hx W r
    have sub : ∀ y ∈ G, y ∈ W := by
      induction r with
      | refl => exact h.sub
      | @step T u v _ p ih =>
        intro y hy
        refine mem_after.mpr (.inl ⟨ih y hy, fun e => ?_⟩)
        subst e
        obtain ⟨_, hv, ho⟩ := mem_slidesP.mp p
        obtain ⟨z, z1, z2, z3⟩ := h.cl.other hy hv
        have : z ∈ oth m es T y v := mem_oth.mpr ⟨z3, ih z z1, z2⟩
        rw [ho] at this
        cases this
    exact sub x hx
  · intro hx
    have key : ∀ z, z ∈ S.filter (fun x => @decide (∀ W, Rch m es S W → x ∈ W) (Classical.propDecidable _)) ↔ ∀ W, Rch m es S W → z ∈ W := fun z => by
      rw [List.mem_filter]
      constructor
      · exact fun h => @of_decide_eq_true _ (Classical.propDecidable _) h.2
      · exact fun h => ⟨h S .refl, @decide_eq_true _ (Classical.propDecidable _) h⟩
    refine h.max _ (fun z hz => (List.mem_filter.mp hz).1) (Cl.of fun x hx v hv => ?_) x ((key x).mpr hx)
    have litx := (key x).mp hx
    refine Classical.byContradiction fun no => ?_
    have hxv : x ∈ nearL m es v := (mem_nearL_comm f).mp hv
    have nxv : x ≠ v := fun e => by
      have := (mem_nearL.mp hv).2
      rw [e] at this
      exact f.loop v this
    have step : ∀ N : List Int, (∀ y ∈ N, y ∈ nearL m es v) → ∃ T, Rch m es S T ∧ ∀ y ∈ N, y ≠ x → y ∉ T := by
      intro N
      induction N with
      | nil => exact fun _ => ⟨S, .refl, fun _ h => nomatch h⟩
      | cons y N ih =>
        intro hN
        obtain ⟨T, rT, dk⟩ := ih fun z hz => hN z (List.mem_cons_of_mem _ hz)
        by_cases hy : y ≠ x ∧ y ∈ T
        · have yv := hN y List.mem_cons_self
          have nyv : y ≠ v := fun e => by
            have := (mem_nearL.mp yv).2
            rw [e] at this
            exact f.loop v this
          have : ∃ W, Rch m es S W ∧ y ∉ W := Classical.byContradiction fun n2 => no ⟨y, (key y).mpr fun W r => Classical.byContradiction fun n3 => n2 ⟨W, r, n3⟩, hy.1, yv⟩
          obtain ⟨W, rW, nyW⟩ := this
          have isT := rT.both f iss
          have rTW : Rch m es T W := isT.2.trans rW
          have dark : ∀ W, Rch m es T W → v ∉ W := fun W r hvW => by
            have rS := rT.trans r
            have isW := (rS.both f iss).1
            exact isW.free x (litx W rS) v hvW (mem_nearL.mp hxv).2
          obtain ⟨W', r', i1, i2⟩ := Rch.inside f (B := fun z => Conn (cutE es v) y z) (v := v) (fun p q Bp hq nq => by
            by_cases np : p = v
            · exfalso
              obtain ⟨pp, hp⟩ := Bp.pth
              exact hp.avoid nyv (np ▸ hp.last)
            · exact .step Bp (adj_cut.mpr ⟨(near_adj hq).symm, np, nq⟩)) dark rTW
          refine ⟨W', rT.trans r', fun z hz nz => ?_⟩
          rcases List.mem_cons.mp hz with rfl | hz
          · exact fun h => nyW ((i1 z (.refl _)).mp h)
          · have zv := hN z (List.mem_cons_of_mem _ hz)
            have nzv : z ≠ v := fun e => by
              have := (mem_nearL.mp zv).2
              rw [e] at this
              exact f.loop v this
            by_cases Bz : Conn (cutE es v) y z
            · have := branch_apart f yv zv nyv nzv Bz
              subst this
              exact fun h => nyW ((i1 y (.refl _)).mp h)
            · exact fun h => dk z hz nz ((i2 z Bz).mp h)
        · refine ⟨T, rT, fun z hz nz hT => ?_⟩
          rcases List.mem_cons.mp hz with rfl | hz
          · exact hy ⟨nz, hT⟩
          · exact dk z hz nz hT
    obtain ⟨T, rT, dk⟩ := step (nearL m es v) fun _ h => h
    have p : (x, v) ∈ slidesP m es T := mem_slidesP.mpr ⟨litx T rT, hv, List.eq_nil_iff_forall_not_mem.mpr fun o z => by
      obtain ⟨o1, o2, o3⟩ := mem_oth.mp z
      exact dk o o1 o3 o2⟩
    rcases mem_after.mp (litx _ (.step rT p)) with h | h
    · exact h.2 rfl
    · exact nxv h
end TL
namespace TL
/-! ### a list of different ascending lists of vertices has at most 2 ^ m items -/
def subs : List Int → List (List Int)
  | [] => [[]]
  | a :: l => subs l ++ (subs l).map (a :: ·)
theorem subs_length : ∀ l : List Int, (subs l).length = 2 ^ l.length
  | [] => rfl
  | a :: l => by
    show (subs l ++ (subs l).map (a :: ·)).length = 2 ^ (l.length + 1)
    rw [List.length_append, List.length_map, subs_length l, Nat.pow_succ]
    omega
theorem mem_subs {r l : List Int} (h : r.Sublist l) : r ∈ subs l := by
  induction h with
  | slnil => exact List.mem_singleton.mpr rfl
  | cons a _ ih => exact List.mem_append_left _ ih
  | cons_cons a _ ih => exact List.mem_append_right _ (List.mem_map.mpr ⟨_, ih, rfl⟩)
theorem asc_sublist : ∀ {l r : List Int}, Asc l → Asc r → (∀ x ∈ r, x ∈ l) → r.Sublist l
  | [], [], _, _, _ => List.Sublist.slnil
  | [], x :: _, _, _, h => nomatch h x List.mem_cons_self
  | a :: l, [], _, _, _ => List.nil_sublist _
  | a :: l, x :: r, hl, hr, h => by
    obtain ⟨l1, l2⟩ := List.pairwise_cons.mp hl
    obtain ⟨r1, r2⟩ := List.pairwise_cons.mp hr
    by_cases e : x = a
    · subst e
      refine (asc_sublist l2 r2 fun y hy => ?_).cons_cons _
      rcases List.mem_cons.mp (h y (List.mem_cons_of_mem _ hy)) with rfl | z
      · exact absurd (r1 _ hy) (Int.lt_irrefl _)
      · exact z
    · refine (asc_sublist l2 hr fun y hy => ?_).cons _
      have hx : x ∈ l := (List.mem_cons.mp (h x List.mem_cons_self)).resolve_left e
      rcases List.mem_cons.mp (h y hy) with rfl | z
      · exfalso
        have ax := l1 x hx
        rcases List.mem_cons.mp hy with rfl | hy
        · exact e rfl
        · have := r1 _ hy
          omega
      · exact z
theorem sets_few {m : Nat} {es : List (Int × Int)} {L : List (List Int)} (nd : L.Nodup) (h : ∀ r ∈ L, IsSet m es r) : L.length ≤ 2 ^ m := by
  have := nd.length_le_of_subset (l₂ := subs (rng m)) fun r hr => mem_subs (asc_sublist (rng_asc m) (h r hr).asc fun x hx => mem_rng.mpr ((h r hr).rng x hx))
  rw [subs_length, rng_length] at this
  exact this
end TL
namespace TL
open PySem PySem.Spec PyProof.Rows L2
/-! ### least numbers of slides -/
inductive Rn (m : Nat) (es : List (Int × Int)) (S : List Int) : Nat → List Int → Prop
  | zero : Rn m es S 0 S
  | step {k : Nat} {T : List Int} {u v : Int} : Rn m es S k T → (u, v) ∈ slidesP m es T → Rn m es S (k + 1) (after T u v)
def Dst (m : Nat) (es : List (Int × Int)) (S : List Int) (k : Nat) (T : List Int) : Prop := Rn m es S k T ∧ ∀ j, Rn m es S j T → k ≤ j
section
variable {m : Nat} {es : List (Int × Int)} {S T : List Int}
theorem Rn.rch {k : Nat} (h : Rn m es S k T) : Rch m es S T := by
  induction h with
  | zero => exact .refl
  | step _ p ih => exact .step ih p
theorem Rch.rn (h : Rch m es S T) : ∃ k, Rn m es S k T := by
  induction h with
  | refl => exact ⟨0, .zero⟩
  | step _ p ih =>
    obtain ⟨k, hk⟩ := ih
    exact ⟨k + 1, .step hk p⟩
theorem Dst.uniq {j k : Nat} (h : Dst m es S j T) (g : Dst m es S k T) : j = k := Nat.le_antisymm (h.2 _ g.1) (g.2 _ h.1)
theorem Dst.least {k : Nat} (h : Rn m es S k T) : ∃ j, Dst m es S j T := by
  induction k using Nat.strongRecOn with
  | _ k ih =>
    by_cases e : ∃ j, j < k ∧ Rn m es S j T
    · obtain ⟨j, hj, hr⟩ := e
      exact ih j hj hr
    · exact ⟨k, h, fun j hj => Nat.le_of_not_lt fun z => e ⟨j, z, hj⟩⟩
theorem Dst.prev {k : Nat} (h : Dst m es S (k + 1) T) : ∃ T' u v, Dst m es S k T' ∧ (u, v) ∈ slidesP m es T' ∧ T = after T' u v := by
  obtain ⟨h1, h2⟩ := h
  cases h1 with
  | @step _ T' u v hr p =>
    refine ⟨T', u, v, ⟨hr, fun j hj => ?_⟩, p, rfl⟩
    have := h2 _ (.step hj p)
    omega
theorem Dst.zero : Dst m es S 0 S := ⟨.zero, fun _ _ => Nat.zero_le _⟩
theorem Dst.zeroI (h : Dst m es S 0 T) : T = S := by
  obtain ⟨h1, _⟩ := h
  cases h1
  rfl
end
/-- a search that goes by distances: P what was found, A still to be seen at the distance d, B at d + 1 -/
structure Bf (m : Nat) (es : List (Int × Int)) (S : List Int) (P : List (List Int × Nat)) (A B : List (List Int)) (d : Nat) : Prop where
  dst : ∀ p ∈ P, Dst m es S p.2 p.1
  lo : ∀ r ∈ A, Dst m es S d r
  hi : ∀ r ∈ B, Dst m es S (d + 1) r
  all : ∀ T k, k ≤ d → Dst m es S k T → T ∈ P.map Prod.fst
section
variable {m : Nat} {es : List (Int × Int)} {S : List Int} {P : List (List Int × Nat)} {A B : List (List Int)} {d : Nat}
theorem Bf.start (m : Nat) (es : List (Int × Int)) (S : List Int) : Bf m es S [(S, 0)] [S] [] 0 :=
  ⟨fun p hp => by rw [List.mem_singleton.mp hp]; exact .zero, fun r hr => by rw [List.mem_singleton.mp hr]; exact .zero, (fun _ h => nomatch h), fun T k hk h => by
    obtain rfl : k = 0 := by omega
    rw [h.zeroI]
    exact List.mem_singleton.mpr rfl⟩
theorem Bf.shift (h : Bf m es S P [] B d) (cl : ∀ r ∈ P.map Prod.fst, r ∉ B → ∀ u v, (u, v) ∈ slidesP m es r → after r u v ∈ P.map Prod.fst) : Bf m es S P B [] (d + 1) :=
  ⟨h.dst, h.hi, (fun _ z => nomatch z), fun T k hk hd => by
    by_cases e : k ≤ d
    · exact h.all T k e hd
    · obtain rfl : k = d + 1 := by omega
      obtain ⟨T', u, v, h1, h2, rfl⟩ := hd.prev
      refine cl T' (h.all T' d (Nat.le_refl _) h1) (fun z => ?_) u v h2
      have := (h.hi T' z).uniq h1
      omega⟩
theorem Bf.pop {r : List Int} (h : Bf m es S P (r :: A) B d) : Bf m es S P A B d := ⟨h.dst, fun z hz => h.lo z (List.mem_cons_of_mem _ hz), h.hi, h.all⟩
theorem Bf.new {r : List Int} {u v : Int} (h : Bf m es S P A B d) (hr : Dst m es S d r) (p : (u, v) ∈ slidesP m es r) (n : after r u v ∉ P.map Prod.fst) : Bf m es S (P ++ [(after r u v, d + 1)]) A (B ++ [after r u v]) d := by
  have hd : Dst m es S (d + 1) (after r u v) := by
    have hr1 : Rn m es S (d + 1) (after r u v) := .step hr.1 p
    obtain ⟨j, hj⟩ := Dst.least hr1
    have h1 := hj.2 _ hr1
    by_cases e : j ≤ d
    · exact absurd (h.all _ j e hj) n
    · obtain rfl : j = d + 1 := by omega
      exact hj
  refine ⟨fun q hq => ?_, h.lo, fun z hz => ?_, fun T k hk hT => ?_⟩
  · rcases List.mem_append.mp hq with z | z
    · exact h.dst q z
    · rw [List.mem_singleton.mp z]
      exact hd
  · rcases List.mem_append.mp hz with z | z
    · exact h.hi _ z
    · rw [List.mem_singleton.mp z]
      exact hd
  · rw [List.map_append]
    exact List.mem_append_left _ (h.all T k hk hT)
end
end TL
namespace TL
/-! ### settings without rigid lamps, with as many lamps in each part: each reaches the other -/
section
variable {m : Nat} {es : List (Int × Int)}
theorem IsFor.part (f : IsFor m es) (c : Int × Int → Bool) : IsFor m (es.filter c) := by
  obtain ⟨nm, ks, g, pm⟩ := f.grow
  refine ⟨f.asc.filter _, fun p hp => f.rng p (List.mem_filter.mp hp).1, nm, ks.filter (fun q => c (edgeOf nm q)), ⟨g.names, g.up.filter _, fun q hq => g.down q (List.mem_filter.mp hq).1⟩, ?_⟩
  have := pm.filter c
  rw [List.filter_map] at this
  exact this
theorem adj_near (f : IsFor m es) {a b : Int} (h : Adj es a b) : a ∈ nearL m es b := by
  refine mem_nearL.mpr ⟨?_, f.mem_ord.mpr h⟩
  rcases h with h | h
  · have := f.rng _ h
    simp only at this
    omega
  · have := f.rng _ h
    simp only at this
    omega
theorem near_ne (f : IsFor m es) {a b : Int} (h : a ∈ nearL m es b) : a ≠ b := fun e => by
  have := (mem_nearL.mp h).2
  rw [e] at this
  exact f.loop b this
/-- beside a vertex that can be lit, every vertex can be lit -/
theorem light_up {S : List Int} (f : IsFor m es) (iss : IsSet m es S) (gr : IsGr m es S []) {x g : Int} (hx : ∃ W, Rch m es S W ∧ x ∈ W) (hg : g ∈ nearL m es x) : ∃ W, Rch m es S W ∧ g ∈ W := by
  refine Classical.byContradiction fun no => ?_
  have dark : ∀ W, Rch m es S W → g ∉ W := fun W r h => no ⟨W, r, h⟩
  have hxg : x ∈ nearL m es g := (mem_nearL_comm f).mp hg
  have nx : x ≠ g := near_ne f hxg
  obtain ⟨W0, r0, x0⟩ := hx
  have step : ∀ N : List Int, (∀ y ∈ N, y ∈ nearL m es g) → ∃ T, Rch m es S T ∧ x ∈ T ∧ ∀ y ∈ N, y ≠ x → y ∉ T := by
    intro N
    induction N with
    | nil => exact fun _ => ⟨W0, r0, x0, fun _ h => nomatch h⟩
    | cons y N ih =>
      intro hN
      obtain ⟨T, rT, xT, dk⟩ := ih fun z hz => hN z (List.mem_cons_of_mem _ hz)
      by_cases hy : y ≠ x ∧ y ∈ T
      · have yg := hN y List.mem_cons_self
        have nyg : y ≠ g := near_ne f yg
        have : ∃ W, Rch m es S W ∧ y ∉ W := Classical.byContradiction fun n2 => by
          have : y ∈ ([] : List Int) := (gr.lit f iss).mpr fun W r => Classical.byContradiction fun n3 => n2 ⟨W, r, n3⟩
          cases this
        obtain ⟨W, rW, nyW⟩ := this
        have isT := rT.both f iss
        have rTW : Rch m es T W := isT.2.trans rW
        obtain ⟨W', r', i1, i2⟩ := Rch.inside f (B := fun z => Conn (cutE es g) y z) (v := g) (fun p q Bp hq nq => by
          by_cases np : p = g
          · exfalso
            obtain ⟨pp, hp⟩ := Bp.pth
            exact hp.avoid nyg (np ▸ hp.last)
          · exact .step Bp (adj_cut.mpr ⟨(near_adj hq).symm, np, nq⟩)) (fun W r => dark W (rT.trans r)) rTW
        have nBx : ¬ Conn (cutE es g) y x := fun c => hy.1 (branch_apart f yg hxg nyg nx c)
        refine ⟨W', rT.trans r', (i2 x nBx).mpr xT, fun z hz nz => ?_⟩
        rcases List.mem_cons.mp hz with rfl | hz
        · exact fun h => nyW ((i1 z (.refl _)).mp h)
        · have zg := hN z (List.mem_cons_of_mem _ hz)
          by_cases Bz : Conn (cutE es g) y z
          · have := branch_apart f yg zg nyg (near_ne f zg) Bz
            subst this
            exact fun h => nyW ((i1 y (.refl _)).mp h)
          · exact fun h => dk z hz nz ((i2 z Bz).mp h)
      · refine ⟨T, rT, xT, fun z hz nz hT => ?_⟩
        rcases List.mem_cons.mp hz with rfl | hz
        · exact hy ⟨nz, hT⟩
        · exact dk z hz nz hT
  obtain ⟨T, rT, xT, dk⟩ := step (nearL m es g) fun _ h => h
  have p : (x, g) ∈ slidesP m es T := mem_slidesP.mpr ⟨xT, hg, List.eq_nil_iff_forall_not_mem.mpr fun o z => by
    obtain ⟨o1, o2, o3⟩ := mem_oth.mp z
    exact dk o o1 o3 o2⟩
  exact dark _ (.step rT p) (mem_after.mpr (.inr rfl))
theorem light_conn {S : List Int} (f : IsFor m es) (iss : IsSet m es S) (gr : IsGr m es S []) {x v : Int} (hx : x ∈ S) (c : Conn es x v) : ∃ W, Rch m es S W ∧ v ∈ W := by
  induction c with
  | refl => exact ⟨S, .refl, hx⟩
  | step _ e ih => exact light_up f iss gr ih (adj_near f (Adj.symm e))
/-! ### numbers of lamps -/
noncomputable def num (B : Int → Prop) (S : List Int) : Nat := (S.filter fun x => @decide (B x) (Classical.propDecidable _)).length
theorem num_perm {B : Int → Prop} {S T : List Int} (h : S.Perm T) : num B S = num B T := (h.filter _).length_eq
theorem num_nil (B : Int → Prop) : num B [] = 0 := rfl
theorem num_cons {B : Int → Prop} {x : Int} {S : List Int} : num B (x :: S) = num B [x] + num B S := by
  unfold num
  rw [List.filter_cons, List.filter_cons]
  split
  · rw [List.length_cons, List.filter_nil, List.length_singleton]
    omega
  · rw [List.filter_nil, List.length_nil]
    omega
theorem num_one {B : Int → Prop} {x : Int} (h : B x) : num B [x] = 1 := by
  unfold num
  rw [List.filter_cons, if_pos (@decide_eq_true _ (Classical.propDecidable _) h)]
  rfl
theorem num_no {B : Int → Prop} {x : Int} (h : ¬ B x) : num B [x] = 0 := by
  unfold num
  rw [List.filter_cons, if_neg (fun z => h (@of_decide_eq_true _ (Classical.propDecidable _) z))]
  rfl
theorem num_congr {B C : Int → Prop} {S : List Int} (h : ∀ x ∈ S, B x ↔ C x) : num B S = num C S := by
  unfold num
  congr 1
  refine List.filter_congr fun x hx => ?_
  by_cases b : B x
  · rw [@decide_eq_true _ (Classical.propDecidable _) b, @decide_eq_true _ (Classical.propDecidable _) ((h x hx).mp b)]
  · rw [@decide_eq_false _ (Classical.propDecidable _) b, @decide_eq_false _ (Classical.propDecidable _) (fun z => b ((h x hx).mpr z))]
theorem num_zero {B : Int → Prop} {S : List Int} (h : ∀ x ∈ S, ¬ B x) : num B S = 0 := by
  unfold num
  rw [List.length_eq_zero_iff, List.filter_eq_nil_iff]
  exact fun x hx z => h x hx (@of_decide_eq_true _ (Classical.propDecidable _) z)
theorem num_pos {B : Int → Prop} {S : List Int} {x : Int} (hx : x ∈ S) (b : B x) : 0 < num B S := by
  unfold num
  exact List.length_pos_of_mem (List.mem_filter.mpr ⟨hx, @decide_eq_true _ (Classical.propDecidable _) b⟩)
theorem num_pos_iff {B : Int → Prop} {S : List Int} : 0 < num B S ↔ ∃ x ∈ S, B x := by
  constructor
  · intro h
    unfold num at h
    obtain ⟨x, hx⟩ := List.exists_mem_of_length_pos h
    obtain ⟨h1, h2⟩ := List.mem_filter.mp hx
    exact ⟨x, h1, @of_decide_eq_true _ (Classical.propDecidable _) h2⟩
  · rintro ⟨x, hx, b⟩
    exact num_pos hx b
theorem perm_of_mem {S T : List Int} (hS : S.Nodup) (hT : T.Nodup) (h : ∀ x, x ∈ S ↔ x ∈ T) : S.Perm T := (List.perm_ext_iff_of_nodup hS hT).mpr h
theorem num_add {B : Int → Prop} {S T : List Int} {v : Int} (hS : S.Nodup) (hT : T.Nodup) (nv : v ∉ T) (h : ∀ x, x ∈ S ↔ x ∈ T ∨ x = v) : num B S = num B [v] + num B T := by
  have : S.Perm (v :: T) := perm_of_mem hS (List.nodup_cons.mpr ⟨nv, hT⟩) fun x => by rw [h x, List.mem_cons, Or.comm]
  rw [num_perm this, num_cons]
theorem num_after {B : Int → Prop} {S : List Int} {u v : Int} (hS : S.Nodup) (hu : u ∈ S) (h : B u ↔ B v) : num B (after S u v) = num B S := by
  have e1 : num B (after S u v) = num B (v :: S.filter (fun l => !decide (l = u))) := num_perm ((srtI_perm _).trans (List.perm_append_comm (l₁ := S.filter (fun l => !decide (l = u))) (l₂ := [v])))
  have e2 : S.Perm (u :: S.filter (fun l => !decide (l = u))) := by
    refine perm_of_mem hS (List.nodup_cons.mpr ⟨fun z => ?_, hS.filter _⟩) fun x => ?_
    · have := (List.mem_filter.mp z).2
      rw [decide_eq_true rfl] at this
      cases this
    · rw [List.mem_cons, List.mem_filter]
      by_cases e : x = u
      · subst e
        exact ⟨fun _ => .inl rfl, fun _ => hu⟩
      · rw [decide_eq_false e]
        exact ⟨fun z => .inr ⟨z, rfl⟩, fun z => z.elim (fun y => absurd y e) (·.1)⟩
  rw [e1, num_perm e2, num_cons, num_cons (x := u)]
  have : num B [v] = num B [u] := by
    by_cases b : B u
    · rw [num_one b, num_one (h.mp b)]
    · rw [num_no b, num_no fun z => b (h.mpr z)]
  omega
theorem Rch.num {S T : List Int} (f : IsFor m es) (iss : IsSet m es S) {B : Int → Prop} (hB : ∀ a b, Adj es a b → B a → B b) (h : Rch m es S T) : num B T = num B S := by
  induction h with
  | refl => rfl
  | @step T u v r p ih =>
    obtain ⟨p1, p2, p3⟩ := mem_slidesP.mp p
    have ad := near_adj p2
    rw [num_after (r.both f iss).1.asc.nodup p1 ⟨hB _ _ ad.symm, hB _ _ ad⟩, ih]
theorem Rch.gr {S T G : List Int} (f : IsFor m es) (iss : IsSet m es S) (g : IsGr m es S G) (h : Rch m es S T) : IsGr m es T G := by
  have key : ∀ x ∈ G, x ∈ T := fun x hx => (g.lit f iss).mp hx T h
  refine ⟨g.asc, key, g.cl, fun L sub cl x hx => ?_⟩
  obtain ⟨isT, back⟩ := h.both f iss
  -- what is closed stays lit
  have stay : ∀ W, Rch m es T W → ∀ y ∈ L, y ∈ W := by
    intro W r
    induction r with
    | refl => exact sub
    | @step W u v _ p ih =>
      intro y hy
      refine mem_after.mpr (.inl ⟨ih y hy, fun e => ?_⟩)
      subst e
      obtain ⟨_, hv, ho⟩ := mem_slidesP.mp p
      obtain ⟨z, z1, z2, z3⟩ := cl.other hy hv
      have : z ∈ oth m es W y v := mem_oth.mpr ⟨z3, ih z z1, z2⟩
      rw [ho] at this
      cases this
  exact g.max L (stay S back) cl x hx
/-! ### a vertex all of whose neighbours but one are leaves -/
theorem max_in {α : Type} (g : α → Nat) : ∀ {l : List α}, l ≠ [] → ∃ a ∈ l, ∀ b ∈ l, g b ≤ g a
  | [], h => absurd rfl h
  | [a], _ => ⟨a, List.mem_cons_self, fun b hb => by rw [List.mem_singleton.mp hb]; exact Nat.le_refl _⟩
  | a :: c :: l, _ => by
    obtain ⟨b, hb, hm⟩ := max_in g (l := c :: l) (fun z => nomatch z)
    by_cases h : g a ≤ g b
    · exact ⟨b, List.mem_cons_of_mem _ hb, fun d hd => (List.mem_cons.mp hd).elim (fun e => e ▸ h) (hm d)⟩
    · exact ⟨a, List.mem_cons_self, fun d hd => (List.mem_cons.mp hd).elim (fun e => e ▸ Nat.le_refl _) (fun z => by have := hm d z; omega)⟩
theorem Grow.adj {nm : List Int} {ks : List (Nat × Nat)} (pm : es.Perm (ks.map (edgeOf nm))) (f : IsFor m es) {a b : Int} : Adj es a b ↔ ∃ q ∈ ks, (a = nm.getD q.1 0 ∧ b = nm.getD q.2 0) ∨ (a = nm.getD q.2 0 ∧ b = nm.getD q.1 0) := by
  constructor
  · intro h
    have h1 : ordP a b ∈ es := f.mem_ord.mpr h
    obtain ⟨q, hq, e⟩ := List.mem_map.mp (pm.mem_iff.mp h1)
    refine ⟨q, hq, ?_⟩
    rcases ordP_inj e with ⟨h1, h2⟩ | ⟨h1, h2⟩
    · exact .inl ⟨h1.symm, h2.symm⟩
    · exact .inr ⟨h2.symm, h1.symm⟩
  · rintro ⟨q, hq, h⟩
    refine f.mem_ord.mp (pm.mem_iff.mpr (List.mem_map.mpr ⟨q, hq, ?_⟩))
    unfold edgeOf
    rcases h with ⟨rfl, rfl⟩ | ⟨rfl, rfl⟩
    · rfl
    · exact ordP_comm _ _
theorem pair_eq {ks : List (Nat × Nat)} (h : ks.Pairwise fun a b => a.1 < b.1) {q r : Nat × Nat} (hq : q ∈ ks) (hr : r ∈ ks) (e : q.1 = r.1) : q = r := by
  induction ks with
  | nil => cases hq
  | cons k ks ih =>
    obtain ⟨h1, h2⟩ := List.pairwise_cons.mp h
    rcases List.mem_cons.mp hq with h3 | h3
    · rcases List.mem_cons.mp hr with h4 | h4
      · rw [h3, h4]
      · have := h1 r h4
        rw [h3] at e
        omega
    · rcases List.mem_cons.mp hr with h4 | h4
      · have := h1 q h3
        rw [h4] at e
        omega
      · exact ih h2 h3 h4
theorem IsFor.safe (f : IsFor m es) {x y : Int} (hy : y ∈ nearL m es x) : ∃ u v p, Conn es x u ∧ v ∈ nearL m es u ∧ (∀ w ∈ nearL m es v, w = u) ∧ ∀ z ∈ nearL m es u, z ≠ p → ∀ w ∈ nearL m es z, w = u := by
  obtain ⟨nm, ks, g, pm⟩ := f.grow
  have adj : ∀ {a b}, Adj es a b ↔ _ := fun {a b} => Grow.adj (a := a) (b := b) pm f
  let C : Nat × Nat → Bool := fun q => @decide (Conn es x (nm.getD q.2 0)) (Classical.propDecidable _)
  have hC : ∀ {q}, q ∈ ks.filter C ↔ q ∈ ks ∧ Conn es x (nm.getD q.2 0) := fun {q} => by
    rw [List.mem_filter]
    exact ⟨fun h => ⟨h.1, @of_decide_eq_true _ (Classical.propDecidable _) h.2⟩, fun h => ⟨h.1, @decide_eq_true _ (Classical.propDecidable _) h.2⟩⟩
  have ne : ks.filter C ≠ [] := by
    obtain ⟨q, hq, h⟩ := adj.mp (near_adj hy)
    refine List.ne_nil_of_mem (a := q) (hC.mpr ⟨hq, ?_⟩)
    rcases h with ⟨_, h⟩ | ⟨h, _⟩
    · rw [← h]
      exact .refl _
    · rw [← h]
      exact .step (.refl _) (near_adj hy).symm
  obtain ⟨q0, hq0, mx⟩ := max_in (fun q : Nat × Nat => q.2) ne
  obtain ⟨k0, c0⟩ := hC.mp hq0
  have mx' : ∀ q ∈ ks, Conn es x (nm.getD q.2 0) → q.2 ≤ q0.2 := fun q hq c => mx q (hC.mpr ⟨hq, c⟩)
  have d0 := g.down q0 k0
  -- a child of u is a leaf
  have leaf : ∀ q ∈ ks, q.2 = q0.2 → ∀ w ∈ nearL m es (nm.getD q.1 0), w = nm.getD q0.2 0 := by
    intro q hq e w hw
    have dq := g.down q hq
    obtain ⟨r, hr, h⟩ := adj.mp (near_adj hw)
    have dr := g.down r hr
    rcases h with ⟨h1, h2⟩ | ⟨h1, h2⟩
    · exfalso
      have e2 := g.inj dq.2 (by omega) h2
      have c : Conn es x (nm.getD r.2 0) := by
        rw [← h2]
        refine .step c0 (adj.mpr ⟨q, hq, .inr ⟨by rw [e], rfl⟩⟩)
      have := mx' r hr c
      omega
    · have e2 := g.inj dq.2 dr.2 h2
      have := pair_eq g.up hq hr e2
      subst this
      rw [h1, e]
  by_cases hp : ∃ q ∈ ks, q.1 = q0.2
  · obtain ⟨qp, hqp, ep⟩ := hp
    refine ⟨nm.getD q0.2 0, nm.getD q0.1 0, nm.getD qp.2 0, c0, adj_near f (adj.mpr ⟨q0, k0, .inl ⟨rfl, rfl⟩⟩), leaf q0 k0 rfl, fun z hz nz => ?_⟩
    obtain ⟨r, hr, h⟩ := adj.mp (near_adj hz)
    have dr := g.down r hr
    rcases h with ⟨h1, h2⟩ | ⟨h1, h2⟩
    · have e2 := g.inj (by omega) (by omega) h2
      rw [h1]
      exact leaf r hr e2.symm
    · exfalso
      have e2 := g.inj (by omega) dr.2 h2
      have := pair_eq g.up hqp hr (by omega)
      subst this
      exact nz h1
  · refine ⟨nm.getD q0.2 0, nm.getD q0.1 0, nm.getD q0.2 0, c0, adj_near f (adj.mpr ⟨q0, k0, .inl ⟨rfl, rfl⟩⟩), leaf q0 k0 rfl, fun z hz _ => ?_⟩
    obtain ⟨r, hr, h⟩ := adj.mp (near_adj hz)
    have dr := g.down r hr
    rcases h with ⟨h1, h2⟩ | ⟨h1, h2⟩
    · have e2 := g.inj (by omega) (by omega) h2
      rw [h1]
      exact leaf r hr e2.symm
    · exfalso
      have e2 := g.inj (by omega) dr.2 h2
      exact hp ⟨r, hr, e2.symm⟩
end
end TL
namespace TL
section
variable {m : Nat} {es : List (Int × Int)}
theorem adj_part {c : Int × Int → Bool} {a b : Int} (h : Adj (es.filter c) a b) : Adj es a b := h.imp (fun z => (List.mem_filter.mp z).1) (fun z => (List.mem_filter.mp z).1)
theorem near_cut (f : IsFor m es) {u a b : Int} : a ∈ nearL m (cutE es u) b ↔ a ∈ nearL m es b ∧ a ≠ u ∧ b ≠ u := by
  have f' : IsFor m (cutE es u) := f.part _
  constructor
  · intro h
    obtain ⟨h1, h2, h3⟩ := adj_cut.mp (near_adj h)
    exact ⟨adj_near f h1, h2, h3⟩
  · rintro ⟨h1, h2, h3⟩
    exact adj_near f' (adj_cut.mpr ⟨near_adj h1, h2, h3⟩)
/-- a branch at u begins at a neighbour of u -/
theorem branch_at {u x : Int} (h : Conn es u x) : x ≠ u → ∃ z, Adj es u z ∧ z ≠ u ∧ Conn (cutE es u) z x := by
  induction h with
  | refl => exact fun n => absurd rfl n
  | @step b c _ e ih =>
    intro n
    by_cases hb : b = u
    · subst hb
      exact ⟨c, e, n, .refl _⟩
    · obtain ⟨z, h1, h2, h3⟩ := ih hb
      exact ⟨z, h1, h2, .step h3 (adj_cut.mpr ⟨e, hb, n⟩)⟩
theorem conn_out {u c x : Int} (n : ¬ Conn es c u) (h : Conn es c x) : Conn (cutE es u) c x := by
  induction h with
  | refl => exact .refl _
  | @step a b h e ih => exact .step ih (adj_cut.mpr ⟨e, fun z => n (z ▸ h), fun z => n (z ▸ Conn.step h e)⟩)
theorem conn_cut_mono {u c x : Int} (h : Conn (cutE es u) c x) : Conn es c x := h.mono fun p hp => (List.mem_filter.mp hp).1
theorem conn_lone {E : List (Int × Int)} {c x : Int} (n : ∀ w, ¬ Adj E c w) (h : Conn E c x) : x = c := by
  induction h with
  | refl => rfl
  | step _ e ih => exact absurd (ih ▸ e) (n _)
/-- with one lamp more at a leaf whose neighbour stays dark -/
theorem Rch.with {A B A1 : List Int} {u v : Int} (f : IsFor m es) (hv : ∀ w ∈ nearL m es v, w = u) (nu : u ∉ A) (nvA : v ∉ A) (nvu : v ≠ u) (a1 : IsSet m es A1) (hA : ∀ x, x ∈ A1 ↔ x ∈ A ∨ x = v) (h : Rch m (cutE es u) A B) :
    u ∉ B ∧ v ∉ B ∧ ∃ B1, Rch m es A1 B1 ∧ ∀ x, x ∈ B1 ↔ x ∈ B ∨ x = v := by
  induction h with
  | refl => exact ⟨nu, nvA, A1, .refl, hA⟩
  | @step B a b _ p ih =>
    obtain ⟨nuB, nvB, B1, r, hB⟩ := ih
    obtain ⟨p1, p2, p3⟩ := mem_slidesP.mp p
    obtain ⟨q1, nb, na⟩ := (near_cut f).mp p2
    have nbv : b ≠ v := fun e => by
      subst e
      exact na (hv a ((mem_nearL_comm f).mp q1))
    have nav : a ≠ v := fun e => nvB (e ▸ p1)
    have q : (a, b) ∈ slidesP m es B1 := mem_slidesP.mpr ⟨(hB a).mpr (.inl p1), q1, List.eq_nil_iff_forall_not_mem.mpr fun o z => by
      obtain ⟨o1, o2, o3⟩ := mem_oth.mp z
      rcases (hB o).mp o2 with o2 | o2
      · have no : o ≠ u := fun e => nuB (e ▸ o2)
        have : o ∈ oth m (cutE es u) B a b := mem_oth.mpr ⟨(near_cut f).mpr ⟨o1, no, nb⟩, o2, o3⟩
        rw [p3] at this
        cases this
      · subst o2
        exact nb (hv b ((mem_nearL_comm f).mp o1))⟩
    refine ⟨fun z => ?_, fun z => ?_, _, .step r q, fun x => ?_⟩
    · rcases mem_after.mp z with z | z
      · exact nuB z.1
      · exact nb z.symm
    · rcases mem_after.mp z with z | z
      · exact nvB z.1
      · exact nbv z.symm
    · rw [mem_after, mem_after, hB x]
      constructor
      · rintro (⟨h1 | h1, h2⟩ | h1)
        · exact .inl (.inl ⟨h1, h2⟩)
        · exact .inr h1
        · exact .inl (.inr h1)
      · rintro ((⟨h1, h2⟩ | h1) | h1)
        · exact .inl ⟨.inl h1, h2⟩
        · exact .inr h1
        · exact .inl ⟨.inr h1, fun e => nav (e ▸ h1)⟩
theorem IsSet.sub {E : List (Int × Int)} {S T : List Int} (h : IsSet m es S) (hE : ∀ p ∈ E, p ∈ es) (asc : Asc T) (s : ∀ x ∈ T, x ∈ S) : IsSet m E T :=
  ⟨asc, fun v hv => h.rng v (s v hv), fun u hu v hv z => h.free u (s u hu) v (s v hv) (hE _ z)⟩
/-- without the lamp at a leaf, and without the edges of its neighbour, no lamp is rigid -/
theorem IsGr.less_leaf {S1 S2 : List Int} {u v : Int} (f : IsFor m es) (iss : IsSet m es S1) (gr : IsGr m es S1 []) (hv : v ∈ nearL m es u) (lf : ∀ w ∈ nearL m es v, w = u) (hv1 : v ∈ S1) (h2 : ∀ x, x ∈ S2 ↔ x ∈ S1 ∧ x ≠ v) : IsGr m (cutE es u) S2 [] := by
  have huv : u ∈ nearL m es v := (mem_nearL_comm f).mp hv
  have nu : u ∉ S1 := fun z => iss.free u z v hv1 (mem_nearL.mp huv).2
  refine ⟨.nil, (fun _ h => nomatch h), (fun _ h => nomatch h), fun L sub cl x hx => ?_⟩
  have sub1 : ∀ y ∈ L, y ∈ S1 ∧ y ≠ v := fun y hy => (h2 y).mp (sub y hy)
  by_cases hb : ∃ y ∈ L, y ∈ nearL m es u
  · -- with v
    refine absurd (gr.max (v :: L) (fun y hy => ?_) (Cl.of fun y hy z hz => ?_) x (List.mem_cons_of_mem _ hx)) (fun h => nomatch h)
    · rcases List.mem_cons.mp hy with rfl | hy
      · exact hv1
      · exact (sub1 y hy).1
    · rcases List.mem_cons.mp hy with e | hy
      · subst e
        obtain ⟨w, w1, w2⟩ := hb
        rw [lf z hz]
        exact ⟨w, List.mem_cons_of_mem _ w1, (sub1 w w1).2, w2⟩
      · by_cases ez : z = u
        · subst ez
          exact ⟨v, List.mem_cons_self, (sub1 y hy).2.symm, hv⟩
        · have ny : y ≠ u := fun e => nu (e ▸ (sub1 y hy).1)
          obtain ⟨w, w1, w2, w3⟩ := cl.other hy ((near_cut f).mpr ⟨hz, ez, ny⟩)
          exact ⟨w, List.mem_cons_of_mem _ w1, w2, ((near_cut f).mp w3).1⟩
  · refine absurd (gr.max L (fun y hy => (sub1 y hy).1) (Cl.of fun y hy z hz => ?_) x hx) (fun h => nomatch h)
    have ez : z ≠ u := fun e => hb ⟨y, hy, (mem_nearL_comm f).mp (e ▸ hz)⟩
    have ny : y ≠ u := fun e => nu (e ▸ (sub1 y hy).1)
    obtain ⟨w, w1, w2, w3⟩ := cl.other hy ((near_cut f).mpr ⟨hz, ez, ny⟩)
    exact ⟨w, w1, w2, ((near_cut f).mp w3).1⟩
/-- a lamp that is not rigid has a neighbour -/
theorem IsGr.beside {S : List Int} (gr : IsGr m es S []) {x : Int} (hx : x ∈ S) : ∃ y, y ∈ nearL m es x := by
  refine Classical.byContradiction fun no => ?_
  have := gr.max [x] (fun y hy => by rw [List.mem_singleton.mp hy]; exact hx) (Cl.of fun y hy z hz => by
    rw [List.mem_singleton.mp hy] at hz
    exact absurd ⟨z, hz⟩ no) x List.mem_cons_self
  cases this
theorem reach_all : ∀ {n : Nat} {es : List (Int × Int)} {S T : List Int}, IsFor m es → IsSet m es S → IsSet m es T → IsGr m es S [] → IsGr m es T [] → (∀ c, num (Conn es c) S = num (Conn es c) T) → S.length = n → Rch m es S T
  | 0, es, S, T, f, sS, sT, gS, gT, hc, ln => by
    have e : S = [] := List.length_eq_zero_iff.mp ln
    subst e
    have : T = [] := by
      refine List.eq_nil_iff_forall_not_mem.mpr fun x hx => ?_
      have h1 := num_pos (B := Conn es x) hx (.refl x)
      rw [← hc x] at h1
      exact Nat.lt_irrefl _ h1
    subst this
    exact .refl
  | n + 1, es, S, T, f, sS, sT, gS, gT, hc, ln => by
    obtain ⟨x, hx⟩ := List.exists_mem_of_length_pos (l := S) (by omega)
    obtain ⟨y, hy⟩ := gS.beside hx
    obtain ⟨u, v, p, cxu, hv, lf, ot⟩ := f.safe hy
    have huv : u ∈ nearL m es v := (mem_nearL_comm f).mp hv
    have nvu : v ≠ u := near_ne f hv
    have cuv : Conn es u v := .step (.refl _) (near_adj huv)
    have f' : IsFor m (cutE es u) := f.part _
    -- a lamp at v, on both sides
    have bring : ∀ {S : List Int}, IsSet m es S → IsGr m es S [] → (∃ x ∈ S, Conn es u x) → ∃ S1 S2, Rch m es S S1 ∧ v ∈ S1 ∧ IsSet m es S1 ∧ IsGr m es S1 [] ∧ IsSet m (cutE es u) S2 ∧ IsGr m (cutE es u) S2 [] ∧ (∀ x, x ∈ S2 ↔ x ∈ S1 ∧ x ≠ v) ∧ u ∉ S1 := by
      rintro S sS gS ⟨x, hx, cx⟩
      obtain ⟨S1, r1, v1⟩ := light_conn f sS gS hx (cx.symm.trans cuv)
      have s1 := (r1.both f sS).1
      have g1 := r1.gr f sS gS
      have h2 : ∀ x, x ∈ S1.filter (fun x => !decide (x = v)) ↔ x ∈ S1 ∧ x ≠ v := fun x => by
        rw [List.mem_filter, Bool.not_eq_true', decide_eq_false_iff_not]
      refine ⟨S1, S1.filter fun x => !decide (x = v), r1, v1, s1, g1, s1.sub (fun p hp => (List.mem_filter.mp hp).1) (s1.asc.filter _) (fun x hx => (List.mem_filter.mp hx).1), g1.less_leaf f s1 hv lf v1 h2, h2, fun z => s1.free u z v v1 (mem_nearL.mp huv).2⟩
    have hS : ∃ x ∈ S, Conn es u x := ⟨x, hx, cxu.symm⟩
    have hT : ∃ x ∈ T, Conn es u x := num_pos_iff.mp (by rw [← hc u]; exact num_pos_iff.mpr hS)
    obtain ⟨S1, S2, rS, vS, sS1, gS1, sS2, gS2, mS, nuS⟩ := bring sS gS hS
    obtain ⟨T1, T2, rT, vT, sT1, gT1, sT2, gT2, mT, nuT⟩ := bring sT gT hT
    have mS' : ∀ x, x ∈ S1 ↔ x ∈ S2 ∨ x = v := fun x => by
      rw [mS x]
      by_cases e : x = v
      · exact ⟨fun _ => .inr e, fun _ => e ▸ vS⟩
      · exact ⟨fun h => .inl ⟨h, e⟩, fun h => h.elim (·.1) (fun z => absurd z e)⟩
    have mT' : ∀ x, x ∈ T1 ↔ x ∈ T2 ∨ x = v := fun x => by
      rw [mT x]
      by_cases e : x = v
      · exact ⟨fun _ => .inr e, fun _ => e ▸ vT⟩
      · exact ⟨fun h => .inl ⟨h, e⟩, fun h => h.elim (·.1) (fun z => absurd z e)⟩
    have nvS : v ∉ S2 := fun z => ((mS v).mp z).2 rfl
    have nvT : v ∉ T2 := fun z => ((mT v).mp z).2 rfl
    have aS : ∀ B, num B S1 = num B [v] + num B S2 := fun B => num_add sS1.asc.nodup sS2.asc.nodup nvS mS'
    have aT : ∀ B, num B T1 = num B [v] + num B T2 := fun B => num_add sT1.asc.nodup sT2.asc.nodup nvT mT'
    have hB : ∀ c a b, Adj es a b → Conn es c a → Conn es c b := fun c a b ad h => .step h ad
    have c1 : ∀ c, num (Conn es c) S2 = num (Conn es c) T2 := fun c => by
      have h1 := aS (Conn es c)
      have h2 := aT (Conn es c)
      rw [rS.num f sS (hB c), hc c, ← rT.num f sT (hB c)] at h1
      omega
    -- lamps beside u are beside p
    have lone : ∀ {A : List Int}, IsGr m (cutE es u) A [] → ∀ x ∈ A, ∀ z ∈ nearL m es u, z ≠ p → ¬ Conn (cutE es u) z x := by
      intro A gA x hx z hz nz c
      have no : ∀ w, ¬ Adj (cutE es u) z w := fun w ad => by
        obtain ⟨h1, h2, h3⟩ := adj_cut.mp ad
        exact h3 (ot z hz nz w (adj_near f h1.symm))
      have := conn_lone no c
      subst this
      obtain ⟨w, hw⟩ := gA.beside hx
      exact no w (near_adj hw).symm
    have c2 : ∀ c, num (Conn (cutE es u) c) S2 = num (Conn (cutE es u) c) T2 := by
      intro c
      by_cases hcu : Conn es c u
      · by_cases e : c = u
        · subst e
          have no : ∀ w, ¬ Adj (cutE es c) c w := fun w ad => (adj_cut.mp ad).2.1 rfl
          rw [num_zero fun x hx z => nuS (by have := conn_lone no z; subst this; exact ((mS x).mp hx).1), num_zero fun x hx z => nuT (by have := conn_lone no z; subst this; exact ((mT x).mp hx).1)]
        · obtain ⟨z, hz, nz, cz⟩ := branch_at hcu.symm e
          have hzu : z ∈ nearL m es u := adj_near f hz.symm
          by_cases ep : z = p
          · subst ep
            have key : ∀ {A : List Int}, IsGr m (cutE es u) A [] → u ∉ A → num (Conn (cutE es u) c) A = num (Conn es c) A := by
              intro A gA nA
              refine num_congr fun x hx => ⟨conn_cut_mono, fun h => ?_⟩
              obtain ⟨w, hw, nw, cw⟩ := branch_at (hcu.symm.trans h) fun e => nA (e ▸ hx)
              by_cases ew : w = z
              · subst ew
                exact cz.symm.trans cw
              · exact absurd cw (lone gA x hx w (adj_near f hw.symm) ew)
            rw [key gS2 fun z => nuS ((mS u).mp z).1, key gT2 fun z => nuT ((mT u).mp z).1, c1 c]
          · rw [num_zero fun x hx k => lone gS2 x hx z hzu ep (cz.trans k), num_zero fun x hx k => lone gT2 x hx z hzu ep (cz.trans k)]
      · have key : ∀ x, Conn (cutE es u) c x ↔ Conn es c x := fun x => ⟨conn_cut_mono, conn_out hcu⟩
        rw [num_congr fun x _ => key x, num_congr fun x _ => key x, c1 c]
    have ln2 : S2.length = n := by
      have p1 : S1.Perm (v :: S2) := perm_of_mem sS1.asc.nodup (List.nodup_cons.mpr ⟨nvS, sS2.asc.nodup⟩) fun x => by rw [mS' x, List.mem_cons, Or.comm]
      have l1 := p1.length_eq
      have l2 : S1.length = S.length := by
        have := rS.num f sS (B := fun _ => True) (fun _ _ _ _ => trivial)
        have all : ∀ A : List Int, TL.num (fun _ => True) A = A.length := fun A => by
          unfold TL.num
          rw [List.filter_eq_self.mpr fun _ _ => @decide_eq_true _ (Classical.propDecidable _) trivial]
        rw [all, all] at this
        exact this
      rw [List.length_cons] at l1
      omega
    have r2 := reach_all f' sS2 sT2 gS2 gT2 c2 ln2
    obtain ⟨_, _, B1, rB, hB1⟩ := r2.with f lf (fun z => nuS ((mS u).mp z).1) nvS nvu sS1 mS'
    have eB : B1 = T1 := asc_ext (rB.both f sS1).1.asc sT1.asc fun x => by rw [hB1 x, mT' x]
    subst eB
    exact (rS.trans rB).trans (rT.both f sT).2
end
end TL
namespace TL
/-! ### the greatest lock and the numbers of lamps in its pieces tell what is reached -/
section
variable {m : Nat} {es : List (Int × Int)}
def inE (es : List (Int × Int)) (ws : List Int) : List (Int × Int) := es.filter fun p => decide (p.1 ∈ ws) && decide (p.2 ∈ ws)
theorem adj_in {ws : List Int} {a b : Int} : Adj (inE es ws) a b ↔ Adj es a b ∧ a ∈ ws ∧ b ∈ ws := by
  unfold Adj inE
  simp only [List.mem_filter, Bool.and_eq_true, decide_eq_true_eq]
  constructor
  · rintro (⟨h1, h2, h3⟩ | ⟨h1, h2, h3⟩)
    · exact ⟨.inl h1, h2, h3⟩
    · exact ⟨.inr h1, h3, h2⟩
  · rintro ⟨h1 | h1, h2, h3⟩
    · exact .inl ⟨h1, h2, h3⟩
    · exact .inr ⟨h1, h3, h2⟩
theorem near_in (f : IsFor m es) {ws : List Int} {a b : Int} : a ∈ nearL m (inE es ws) b ↔ a ∈ nearL m es b ∧ a ∈ ws ∧ b ∈ ws := by
  have f' : IsFor m (inE es ws) := f.part _
  constructor
  · intro h
    obtain ⟨h1, h2, h3⟩ := adj_in.mp (near_adj h)
    exact ⟨adj_near f h1, h2, h3⟩
  · rintro ⟨h1, h2, h3⟩
    exact adj_near f' (adj_in.mpr ⟨near_adj h1, h2, h3⟩)
/-- the vertices that a lock leaves -/
structure Apt (m : Nat) (es : List (Int × Int)) (G ws : List Int) : Prop where
  mem : ∀ x, x ∈ ws ↔ (0 ≤ x ∧ x < m) ∧ x ∉ G ∧ ∀ o ∈ nearL m es x, o ∉ G
theorem Apt.lamp {G ws S : List Int} (h : Apt m es G ws) (f : IsFor m es) (iss : IsSet m es S) (sub : ∀ x ∈ G, x ∈ S) {x : Int} (hx : x ∈ S) (n : x ∉ G) : x ∈ ws :=
  (h.mem x).mpr ⟨iss.rng x hx, n, fun o ho z => iss.free o (sub o z) x hx (mem_nearL.mp ho).2⟩
theorem IsGr.apart {G ws S S' : List Int} (h : Apt m es G ws) (f : IsFor m es) (iss : IsSet m es S) (gr : IsGr m es S G) (hS : ∀ x, x ∈ S' ↔ x ∈ S ∧ x ∉ G) : IsGr m (inE es ws) S' [] := by
  refine ⟨.nil, (fun _ h => nomatch h), (fun _ h => nomatch h), fun L sub cl x hx => ?_⟩
  have s1 : ∀ y ∈ L, y ∈ S ∧ y ∉ G := fun y hy => (hS y).mp (sub y hy)
  refine absurd (gr.max (L ++ G) (fun y hy => ?_) (Cl.of fun y hy z hz => ?_) x (List.mem_append.mpr (.inl hx))) (s1 x hx).2
  · rcases List.mem_append.mp hy with hy | hy
    · exact (s1 y hy).1
    · exact gr.sub y hy
  · rcases List.mem_append.mp hy with hy | hy
    · obtain ⟨y1, y2⟩ := s1 y hy
      have yw := h.lamp f iss gr.sub y1 y2
      by_cases zw : z ∈ ws
      · obtain ⟨w, w1, w2, w3⟩ := cl.other hy ((near_in f).mpr ⟨hz, zw, yw⟩)
        exact ⟨w, List.mem_append.mpr (.inl w1), w2, ((near_in f).mp w3).1⟩
      · have : ∃ o ∈ nearL m es z, o ∈ G := Classical.byContradiction fun no => zw ((h.mem z).mpr ⟨(mem_nearL.mp hz).1, ((h.mem y).mp yw).2.2 z hz, fun o ho hG => no ⟨o, ho, hG⟩⟩)
        obtain ⟨o, o1, o2⟩ := this
        exact ⟨o, List.mem_append.mpr (.inr o2), fun e => y2 (e ▸ o2), o1⟩
    · obtain ⟨w, w1, w2, w3⟩ := gr.cl.other hy hz
      exact ⟨w, List.mem_append.mpr (.inr w1), w2, w3⟩
/-- slides in the pieces are slides of the forest, beside the lock -/
theorem Rch.beside {G ws A B A1 : List Int} (h : Apt m es G ws) (f : IsFor m es) (hA : ∀ x ∈ A, x ∈ ws) (hA1 : ∀ x, x ∈ A1 ↔ x ∈ A ∨ x ∈ G) (r : Rch m (inE es ws) A B) :
    (∀ x ∈ B, x ∈ ws) ∧ ∃ B1, Rch m es A1 B1 ∧ ∀ x, x ∈ B1 ↔ x ∈ B ∨ x ∈ G := by
  induction r with
  | refl => exact ⟨hA, A1, .refl, hA1⟩
  | @step B a b _ p ih =>
    obtain ⟨hB, B1, r, hB1⟩ := ih
    obtain ⟨p1, p2, p3⟩ := mem_slidesP.mp p
    obtain ⟨q1, bw, aw⟩ := (near_in f).mp p2
    have q : (a, b) ∈ slidesP m es B1 := mem_slidesP.mpr ⟨(hB1 a).mpr (.inl p1), q1, List.eq_nil_iff_forall_not_mem.mpr fun o z => by
      obtain ⟨o1, o2, o3⟩ := mem_oth.mp z
      rcases (hB1 o).mp o2 with o2 | o2
      · have : o ∈ oth m (inE es ws) B a b := mem_oth.mpr ⟨(near_in f).mpr ⟨o1, hB o o2, bw⟩, o2, o3⟩
        rw [p3] at this
        cases this
      · exact ((h.mem b).mp bw).2.2 o o1 o2⟩
    have naG : a ∉ G := ((h.mem a).mp aw).2.1
    refine ⟨fun x hx => ?_, _, .step r q, fun x => ?_⟩
    · rcases mem_after.mp hx with hx | hx
      · exact hB x hx.1
      · exact hx ▸ bw
    · rw [mem_after, mem_after, hB1 x]
      constructor
      · rintro (⟨h1 | h1, h2⟩ | h1)
        · exact .inl (.inl ⟨h1, h2⟩)
        · exact .inr h1
        · exact .inl (.inr h1)
      · rintro ((⟨h1, h2⟩ | h1) | h1)
        · exact .inl ⟨.inl h1, h2⟩
        · exact .inr h1
        · exact .inl ⟨.inr h1, fun e => naG (e ▸ h1)⟩
theorem conn_in {ws : List Int} {c x : Int} (hc : c ∈ ws) (h : Conn (inE es ws) c x) : x ∈ ws := by
  induction h with
  | refl => exact hc
  | step _ e _ => exact (adj_in.mp e).2.2
theorem num_sub {B : Int → Prop} {S S' : List Int} (hS : S.Nodup) (hS' : S'.Nodup) (h : ∀ x, B x → (x ∈ S' ↔ x ∈ S)) : num B S' = num B S := by
  unfold num
  refine (perm_of_mem (hS'.filter _) (hS.filter _) fun x => ?_).length_eq
  rw [List.mem_filter, List.mem_filter]
  constructor
  · rintro ⟨h1, h2⟩
    exact ⟨(h x (@of_decide_eq_true _ (Classical.propDecidable _) h2)).mp h1, h2⟩
  · rintro ⟨h1, h2⟩
    exact ⟨(h x (@of_decide_eq_true _ (Classical.propDecidable _) h2)).mpr h1, h2⟩
theorem reach_pieces {G ws S T : List Int} (h : Apt m es G ws) (f : IsFor m es) (sS : IsSet m es S) (sT : IsSet m es T) (gS : IsGr m es S G) (gT : IsGr m es T G) (hc : ∀ c ∈ ws, num (Conn (inE es ws) c) S = num (Conn (inE es ws) c) T) : Rch m es S T := by
  have f' : IsFor m (inE es ws) := f.part _
  have mem : ∀ (A : List Int) (x : Int), x ∈ A.filter (fun x => !decide (x ∈ G)) ↔ x ∈ A ∧ x ∉ G := fun A x => by
    rw [List.mem_filter, Bool.not_eq_true', decide_eq_false_iff_not]
  have sub : ∀ p ∈ inE es ws, p ∈ es := fun p hp => (List.mem_filter.mp hp).1
  have cut : ∀ {A : List Int}, IsSet m es A → (∀ x ∈ G, x ∈ A) → ∀ c, num (Conn (inE es ws) c) (A.filter (fun x => !decide (x ∈ G))) = if c ∈ ws then num (Conn (inE es ws) c) A else 0 := by
    intro A sA gA c
    by_cases cw : c ∈ ws
    · rw [if_pos cw]
      refine num_sub sA.asc.nodup (sA.asc.nodup.filter _) fun x hx => ?_
      rw [mem]
      exact ⟨fun z => z.1, fun z => ⟨z, ((h.mem x).mp (conn_in cw hx)).2.1⟩⟩
    · rw [if_neg cw]
      refine num_zero fun x hx cx => ?_
      have : x = c := conn_lone (fun w ad => cw (adj_in.mp ad).2.1) cx
      subst this
      obtain ⟨h1, h2⟩ := (mem A x).mp hx
      exact cw (h.lamp f sA gA h1 h2)
  have r := reach_all f' (sS.sub sub (sS.asc.filter _) fun x hx => ((mem S x).mp hx).1) (sT.sub sub (sT.asc.filter _) fun x hx => ((mem T x).mp hx).1) (gS.apart h f sS (mem S)) (gT.apart h f sT (mem T)) (fun c => by
    rw [cut sS gS.sub c, cut sT gT.sub c]
    by_cases cw : c ∈ ws
    · rw [if_pos cw, if_pos cw, hc c cw]
    · rw [if_neg cw, if_neg cw]) rfl
  have back : ∀ {A : List Int}, (∀ x ∈ G, x ∈ A) → ∀ x, x ∈ A ↔ x ∈ A.filter (fun x => !decide (x ∈ G)) ∨ x ∈ G := by
    intro A gA x
    rw [mem]
    by_cases e : x ∈ G
    · exact ⟨fun _ => .inr e, fun _ => gA x e⟩
    · exact ⟨fun z => .inl ⟨z, e⟩, fun z => z.elim (·.1) (fun z => absurd z e)⟩
  obtain ⟨_, B1, rB, hB1⟩ := r.beside h f (fun x hx => by
    obtain ⟨h1, h2⟩ := (mem S x).mp hx
    exact h.lamp f sS gS.sub h1 h2) (back gS.sub)
  have e : B1 = T := asc_ext (rB.both f sS).1.asc sT.asc fun x => by rw [hB1 x, back gT.sub x]
  subst e
  exact rB
/-- by groups of one label -/
theorem Grp.conn {ws : List Int} {lb : Int → Int} {gs : List (Int × List Int)} (lab : Lab es ws lb) (gr : Grp lb ws gs) {g : Int × List Int} (hg : g ∈ gs) {c : Int} (hc : c ∈ g.2) (x : Int) : Conn (inE es ws) c x ↔ x ∈ g.2 := by
  have key : ∀ x, x ∈ g.2 ↔ x ∈ ws ∧ lb x = g.1 := fun x => by
    rw [(gr.is g hg).1, List.mem_filter, decide_eq_true_eq]
  obtain ⟨c1, c2⟩ := (key c).mp hc
  constructor
  · intro h
    refine (key x).mpr ⟨conn_in c1 h, ?_⟩
    induction h with
    | refl => exact c2
    | step _ e ih =>
      obtain ⟨h1, h2, h3⟩ := adj_in.mp e
      rcases h1 with h1 | h1
      · rw [← lab.join _ h1 h2 h3]
        exact ih
      · rw [lab.join _ h1 h3 h2]
        exact ih
  · intro h
    obtain ⟨h1, h2⟩ := (key x).mp h
    exact lab.conn c c1 x h1 (c2.trans h2.symm)
theorem num_grp {ws : List Int} {lb : Int → Int} {gs : List (Int × List Int)} (lab : Lab es ws lb) (gr : Grp lb ws gs) {g : Int × List Int} (hg : g ∈ gs) {c : Int} (hc : c ∈ g.2) (S : List Int) : num (Conn (inE es ws) c) S = (S.filter fun l => decide (l ∈ g.2)).length := by
  unfold num
  congr 1
  refine List.filter_congr fun x _ => ?_
  by_cases b : x ∈ g.2
  · rw [@decide_eq_true _ (Classical.propDecidable _) ((gr.conn lab hg hc x).mpr b), decide_eq_true b]
  · rw [@decide_eq_false _ (Classical.propDecidable _) (fun z => b ((gr.conn lab hg hc x).mp z)), decide_eq_false b]
theorem reach_groups {G ws S T : List Int} {lb : Int → Int} {gs : List (Int × List Int)} (h : Apt m es G ws) (f : IsFor m es) (sS : IsSet m es S) (sT : IsSet m es T) (gS : IsGr m es S G) (gT : IsGr m es T G) (lab : Lab es ws lb) (gr : Grp lb ws gs)
    (hc : ∀ g ∈ gs, (S.filter fun l => decide (l ∈ g.2)).length = (T.filter fun l => decide (l ∈ g.2)).length) : Rch m es S T := by
  refine reach_pieces h f sS sT gS gT fun c cw => ?_
  obtain ⟨g, hg, e⟩ := List.mem_map.mp (gr.all c cw)
  have hcg : c ∈ g.2 := by
    rw [(gr.is g hg).1, List.mem_filter, decide_eq_true_eq]
    exact ⟨cw, e.symm⟩
  rw [num_grp lab gr hg hcg, num_grp lab gr hg hcg, hc g hg]
/-- and what is reached has as many lamps in each piece -/
theorem Rch.pieces {G ws S T : List Int} (h : Apt m es G ws) (f : IsFor m es) (sS : IsSet m es S) (gS : IsGr m es S G) (r : Rch m es S T) (c : Int) : TL.num (Conn (inE es ws) c) T = TL.num (Conn (inE es ws) c) S := by
  induction r with
  | refl => rfl
  | @step T u v r p ih =>
    obtain ⟨p1, p2, p3⟩ := mem_slidesP.mp p
    have isT := (r.both f sS).1
    have gT := r.gr f sS gS
    obtain ⟨nu, nn⟩ := gT.fixed p
    have uw : u ∈ ws := h.lamp f isT gT.sub p1 nu
    have vw : v ∈ ws := (h.mem v).mpr ⟨(mem_nearL.mp p2).1, fun z => by
      have := gT.sub v z
      exact adj_free isT p1 p2 this, nn⟩
    have ad : Adj (inE es ws) u v := adj_in.mpr ⟨(near_adj p2).symm, uw, vw⟩
    rw [num_after isT.asc.nodup p1 ⟨fun z => .step z ad, fun z => .step z ad.symm⟩, ih]
theorem Rch.groups {G ws S T : List Int} {lb : Int → Int} {gs : List (Int × List Int)} (h : Apt m es G ws) (f : IsFor m es) (sS : IsSet m es S) (gS : IsGr m es S G) (lab : Lab es ws lb) (gr : Grp lb ws gs) (r : Rch m es S T) :
    ∀ g ∈ gs, (S.filter fun l => decide (l ∈ g.2)).length = (T.filter fun l => decide (l ∈ g.2)).length := by
  intro g hg
  obtain ⟨c, hc⟩ := List.exists_mem_of_ne_nil _ (gr.is g hg).2
  rw [← num_grp lab gr hg hc, ← num_grp lab gr hg hc, r.pieces h f sS gS c]
end
end TL
namespace TL
/-! ### normal lamps of a tree -/
section
variable {m : Nat} {es : List (Int × Int)}
def leafs (m : Nat) (es : List (Int × Int)) : List Int := (rng m).filter fun v => decide ((nearL m es v).length = 1)
def hdI (l : List Int) : Int := l.headD 0
def goodLeaf (m : Nat) (es : List (Int × Int)) (v : Int) : Bool := decide (((nearL m es (hdI (nearL m es v))).filter fun o => !decide (o ∈ leafs m es)).length ≤ 1)
def nextL (m : Nat) (es : List (Int × Int)) : Option Int := (leafs m es).find? (goodLeaf m es)
def normS (m : Nat) : List (Int × Int) → Nat → List (List (Int × Int) × Int)
  | _, 0 => []
  | es, k + 1 => match nextL m es with
    | some v => (es, v) :: normS m (cutE es (hdI (nearL m es v))) k
    | none => []
def normL (m : Nat) (es : List (Int × Int)) (k : Nat) : List Int := (normS m es k).map (·.2)
theorem mem_leafs {v : Int} : v ∈ leafs m es ↔ (0 ≤ v ∧ v < m) ∧ (nearL m es v).length = 1 := by
  unfold leafs
  rw [List.mem_filter, mem_rng, decide_eq_true_eq]
theorem near_rng (f : IsFor m es) {a b : Int} (h : a ∈ nearL m es b) : (0 ≤ a ∧ a < m) ∧ (0 ≤ b ∧ b < m) := ⟨(mem_nearL.mp h).1, (mem_nearL.mp ((mem_nearL_comm f).mp h)).1⟩
theorem one_of {l : List Int} (h : l.length = 1) : l = [hdI l] := by
  match l, h with
  | [a], _ => rfl
theorem leaf_of (f : IsFor m es) {u z : Int} (hz : z ∈ nearL m es u) (h : ∀ w ∈ nearL m es z, w = u) : z ∈ leafs m es := by
  refine mem_leafs.mpr ⟨(near_rng f hz).1, ?_⟩
  have hu : u ∈ nearL m es z := (mem_nearL_comm f).mp hz
  have nd : (nearL m es z).Nodup := (nearL_asc m es z).nodup
  have l1 := nd.length_le_of_subset (l₂ := [u]) fun w hw => by rw [h w hw]; exact List.mem_singleton.mpr rfl
  have l2 := List.length_pos_of_mem hu
  rw [List.length_singleton] at l1
  omega
/-- what is found: a leaf whose neighbour has at most one neighbour that is no leaf -/
theorem nextL_some (f : IsFor m es) {v : Int} (h : nextL m es = some v) : ∃ u, nearL m es v = [u] ∧ hdI (nearL m es v) = u ∧ v ∈ nearL m es u ∧ (∀ w ∈ nearL m es v, w = u) ∧ ∃ p, ∀ z ∈ nearL m es u, z ≠ p → ∀ w ∈ nearL m es z, w = u := by
  have h1 := List.mem_of_find?_eq_some h
  have h2 := List.find?_some h
  obtain ⟨hr, hl⟩ := mem_leafs.mp h1
  have e := one_of hl
  have huv : hdI (nearL m es v) ∈ nearL m es v := by rw [e]; exact List.mem_singleton.mpr rfl
  refine ⟨hdI (nearL m es v), e, rfl, (mem_nearL_comm f).mp huv, fun w hw => ?_, ?_⟩
  · rw [e] at hw
    exact List.mem_singleton.mp hw
  · have h3 : ((nearL m es (hdI (nearL m es v))).filter fun o => !decide (o ∈ leafs m es)).length ≤ 1 := of_decide_eq_true h2
    have key : ∀ z ∈ nearL m es (hdI (nearL m es v)), z ∈ leafs m es → ∀ w ∈ nearL m es z, w = hdI (nearL m es v) := fun z hz hzl w hw => by
      have e2 := one_of (mem_leafs.mp hzl).2
      have h4 : hdI (nearL m es v) ∈ nearL m es z := (mem_nearL_comm f).mp hz
      rw [e2] at hw h4
      rw [List.mem_singleton.mp hw, List.mem_singleton.mp h4]
    generalize hF : (nearL m es (hdI (nearL m es v))).filter (fun o => !decide (o ∈ leafs m es)) = F at h3
    have mF : ∀ z ∈ nearL m es (hdI (nearL m es v)), z ∉ F → z ∈ leafs m es := fun z hz nz => Classical.byContradiction fun no => nz (by
      rw [← hF, List.mem_filter, decide_eq_false no]
      exact ⟨hz, rfl⟩)
    match F, h3 with
    | [], _ => exact ⟨0, fun z hz _ => key z hz (mF z hz (fun h => nomatch h))⟩
    | [p], _ => exact ⟨p, fun z hz nz => key z hz (mF z hz fun h => nz (List.mem_singleton.mp h))⟩
theorem nextL_ex (f : IsFor m es) {x y : Int} (hy : y ∈ nearL m es x) : ∃ v, nextL m es = some v := by
  obtain ⟨u, v, p, _, hv, lf, ot⟩ := f.safe hy
  have hl := leaf_of f hv lf
  have e := one_of (mem_leafs.mp hl).2
  have eu : hdI (nearL m es v) = u := lf _ (by rw [e]; exact List.mem_singleton.mpr rfl)
  have good : goodLeaf m es v = true := by
    unfold goodLeaf
    rw [eu]
    refine decide_eq_true ?_
    have nd : ((nearL m es u).filter fun o => !decide (o ∈ leafs m es)).Nodup := (nearL_asc m es u).nodup.filter _
    exact nd.length_le_of_subset (l₂ := [p]) fun z hz => by
      obtain ⟨z1, z2⟩ := List.mem_filter.mp hz
      by_cases e : z = p
      · rw [e]
        exact List.mem_singleton.mpr rfl
      · rw [decide_eq_true (leaf_of f z1 (ot z z1 e))] at z2
        cases z2
  cases h : nextL m es with
  | some w => exact ⟨w, rfl⟩
  | none =>
    have := List.find?_eq_none.mp h v hl
    exact absurd good this
/-- all edges are in one part -/
def OneP (m : Nat) (es : List (Int × Int)) : Prop := ∀ a b c d, a ∈ nearL m es b → c ∈ nearL m es d → Conn es a c
theorem OneP.cut (f : IsFor m es) (o : OneP m es) {u p : Int} (ot : ∀ z ∈ nearL m es u, z ≠ p → ∀ w ∈ nearL m es z, w = u) : OneP m (cutE es u) := by
  -- every end of an edge that stays is joined with p
  have key : ∀ a b, a ∈ nearL m (cutE es u) b → ∀ x, x ∈ nearL m es u → Conn (cutE es u) p a := by
    intro a b h x hx
    obtain ⟨h1, na, nb⟩ := (near_cut f).mp h
    have hux : u ∈ nearL m es x := (mem_nearL_comm f).mp hx
    have c : Conn es u a := o _ _ _ _ hux h1
    obtain ⟨z, hz, nz, cz⟩ := branch_at c na
    by_cases e : z = p
    · subst e
      exact cz
    · exfalso
      have hzu := adj_near f hz.symm
      have no : ∀ w, ¬ Adj (cutE es u) z w := fun w ad => by
        obtain ⟨q1, _, q3⟩ := adj_cut.mp ad
        exact q3 (ot z hzu e w (adj_near f q1.symm))
      have := conn_lone no cz
      subst this
      exact no b (near_adj h)
  intro a b c d h1 h2
  by_cases hu : ∃ x, x ∈ nearL m es u
  · obtain ⟨x, hx⟩ := hu
    exact (key a b h1 x hx).symm.trans (key c d h2 x hx)
  · -- u has no edges: nothing changes
    have h1' := ((near_cut f).mp h1).1
    have h2' := ((near_cut f).mp h2).1
    have nc : ¬ Conn es a u := fun z => by
      obtain ⟨y, hy, _, _⟩ := branch_at z.symm ((near_cut f).mp h1).2.1
      exact hu ⟨y, adj_near f hy.symm⟩
    exact conn_out nc (o _ _ _ _ h1' h2')
theorem norm_reach : ∀ {k : Nat} {es : List (Int × Int)} {A : List Int}, IsFor m es → OneP m es → IsSet m es A → IsGr m es A [] → A.length = k → (normS m es k).length = k ∧ ∃ T, Rch m es A T ∧ (normL m es k).Nodup ∧ ∀ x, x ∈ T ↔ x ∈ normL m es k
  | 0, es, A, f, o, sA, gA, ln => by
    have e : A = [] := List.length_eq_zero_iff.mp ln
    subst e
    exact ⟨rfl, [], .refl, .nil, fun x => Iff.rfl⟩
  | k + 1, es, A, f, o, sA, gA, ln => by
    obtain ⟨x, hx⟩ := List.exists_mem_of_length_pos (l := A) (by omega)
    obtain ⟨y, hy⟩ := gA.beside hx
    obtain ⟨v, hv⟩ := nextL_ex f hy
    obtain ⟨u, e1, e2, hvu, lf, p, ot⟩ := nextL_some f hv
    have huv : u ∈ nearL m es v := (mem_nearL_comm f).mp hvu
    have nvu : v ≠ u := near_ne f hvu
    have f' : IsFor m (cutE es u) := f.part _
    have cxv : Conn es x v := o _ _ _ _ ((mem_nearL_comm f).mp hy) hvu
    obtain ⟨A1, r1, v1⟩ := light_conn f sA gA hx cxv
    have s1 := (r1.both f sA).1
    have g1 := r1.gr f sA gA
    have h2 : ∀ x, x ∈ A1.filter (fun x => !decide (x = v)) ↔ x ∈ A1 ∧ x ≠ v := fun x => by
      rw [List.mem_filter, Bool.not_eq_true', decide_eq_false_iff_not]
    have s2 : IsSet m (cutE es u) (A1.filter fun x => !decide (x = v)) := s1.sub (fun p hp => (List.mem_filter.mp hp).1) (s1.asc.filter _) (fun x hx => (List.mem_filter.mp hx).1)
    have g2 : IsGr m (cutE es u) (A1.filter fun x => !decide (x = v)) [] := g1.less_leaf f s1 hvu lf v1 h2
    have nvS : v ∉ A1.filter (fun x => !decide (x = v)) := fun z => ((h2 v).mp z).2 rfl
    have mS' : ∀ x, x ∈ A1 ↔ x ∈ A1.filter (fun x => !decide (x = v)) ∨ x = v := fun x => by
      rw [h2 x]
      by_cases e : x = v
      · exact ⟨fun _ => .inr e, fun _ => e ▸ v1⟩
      · exact ⟨fun h => .inl ⟨h, e⟩, fun h => h.elim (·.1) (fun z => absurd z e)⟩
    have all : ∀ A : List Int, TL.num (fun _ => True) A = A.length := fun A => by
      unfold TL.num
      rw [List.filter_eq_self.mpr fun _ _ => @decide_eq_true _ (Classical.propDecidable _) trivial]
    have ln2 : (A1.filter fun x => !decide (x = v)).length = k := by
      have p1 : A1.Perm (v :: A1.filter fun x => !decide (x = v)) := perm_of_mem s1.asc.nodup (List.nodup_cons.mpr ⟨nvS, s2.asc.nodup⟩) fun x => by rw [mS' x, List.mem_cons, Or.comm]
      have l1 := p1.length_eq
      have l2 := r1.num f sA (B := fun _ => True) (fun _ _ _ _ => trivial)
      rw [all, all] at l2
      rw [List.length_cons] at l1
      omega
    obtain ⟨ih1, T, rT, nd, mT⟩ := norm_reach f' (o.cut f ot) s2 g2 ln2
    have en : normS m es (k + 1) = (es, v) :: normS m (cutE es u) k := by
      show (match nextL m es with | some v => (es, v) :: normS m (cutE es (hdI (nearL m es v))) k | none => []) = _
      rw [hv]
      show (es, v) :: normS m (cutE es (hdI (nearL m es v))) k = _
      rw [e2]
    have en2 : normL m es (k + 1) = v :: normL m (cutE es u) k := by
      unfold normL
      rw [en]
      rfl
    have nuS : u ∉ A1.filter (fun x => !decide (x = v)) := fun z => s1.free u ((h2 u).mp z).1 v v1 (mem_nearL.mp huv).2
    obtain ⟨nuT, nvT, B1, rB, hB1⟩ := rT.with f lf nuS nvS nvu s1 mS'
    refine ⟨by rw [en, List.length_cons, ih1], B1, r1.trans rB, ?_, fun x => ?_⟩
    · rw [en2]
      exact List.nodup_cons.mpr ⟨fun z => nvT ((mT v).mpr z), nd⟩
    · rw [hB1 x, mT x, en2, List.mem_cons, Or.comm]
/-! ### slides in one piece are slides of the forest -/
theorem Rch.inPiece {Pc W A B A1 : List Int} (f : IsFor m es) (hW : ∀ b ∈ Pc, b ∉ W ∧ ∀ o ∈ nearL m es b, o ∉ W) (hA : ∀ x ∈ A, x ∈ Pc) (hA1 : ∀ x, x ∈ A1 ↔ x ∈ A ∨ x ∈ W) (r : Rch m (inE es Pc) A B) :
    (∀ x ∈ B, x ∈ Pc) ∧ ∃ B1, Rch m es A1 B1 ∧ ∀ x, x ∈ B1 ↔ x ∈ B ∨ x ∈ W := by
  induction r with
  | refl => exact ⟨hA, A1, .refl, hA1⟩
  | @step B a b _ p ih =>
    obtain ⟨hB, B1, r, hB1⟩ := ih
    obtain ⟨p1, p2, p3⟩ := mem_slidesP.mp p
    obtain ⟨q1, bw, aw⟩ := (near_in f).mp p2
    have q : (a, b) ∈ slidesP m es B1 := mem_slidesP.mpr ⟨(hB1 a).mpr (.inl p1), q1, List.eq_nil_iff_forall_not_mem.mpr fun o z => by
      obtain ⟨o1, o2, o3⟩ := mem_oth.mp z
      rcases (hB1 o).mp o2 with o2 | o2
      · have : o ∈ oth m (inE es Pc) B a b := mem_oth.mpr ⟨(near_in f).mpr ⟨o1, hB o o2, bw⟩, o2, o3⟩
        rw [p3] at this
        cases this
      · exact (hW b bw).2 o o1 o2⟩
    refine ⟨fun x hx => ?_, _, .step r q, fun x => ?_⟩
    · rcases mem_after.mp hx with hx | hx
      · exact hB x hx.1
      · exact hx ▸ bw
    · rw [mem_after, mem_after, hB1 x]
      constructor
      · rintro (⟨h1 | h1, h2⟩ | h1)
        · exact .inl (.inl ⟨h1, h2⟩)
        · exact .inr h1
        · exact .inl (.inr h1)
      · rintro ((⟨h1, h2⟩ | h1) | h1)
        · exact .inl ⟨.inl h1, h2⟩
        · exact .inr h1
        · exact .inl ⟨.inr h1, fun e => (hW a aw).1 (e ▸ h1)⟩
/-- the lamps of a piece, by themselves -/
structure Pce (m : Nat) (es : List (Int × Int)) (S b : List Int) : Prop where
  one : OneP m (inE es b)
  set : IsSet m (inE es b) (S.filter fun l => decide (l ∈ b))
  gr : IsGr m (inE es b) (S.filter fun l => decide (l ∈ b)) []
theorem pce_of {G ws S : List Int} {lb : Int → Int} {gs : List (Int × List Int)} (h : Apt m es G ws) (f : IsFor m es) (sS : IsSet m es S) (gS : IsGr m es S G) (lab : Lab es ws lb) (gr : Grp lb ws gs) {g : Int × List Int} (hg : g ∈ gs) : Pce m es S g.2 := by
  have key : ∀ x, x ∈ g.2 ↔ x ∈ ws ∧ lb x = g.1 := fun x => by rw [(gr.is g hg).1, List.mem_filter, decide_eq_true_eq]
  have stay : ∀ {a b : Int}, a ∈ g.2 → Adj (inE es ws) a b → b ∈ g.2 := fun {a b} ha ad => (gr.conn lab hg ha b).mp (.step (.refl _) ad)
  have inner : ∀ {a b : Int}, a ∈ g.2 → Conn (inE es ws) a b → Conn (inE es g.2) a b := fun {a b} ha c => by
    induction c with
    | refl => exact .refl _
    | @step b c h1 e ih =>
      have hb := (gr.conn lab hg ha b).mp h1
      have hc := stay hb e
      exact .step ih (adj_in.mpr ⟨(adj_in.mp e).1, hb, hc⟩)
  have memA : ∀ x, x ∈ S.filter (fun l => decide (l ∈ g.2)) ↔ x ∈ S ∧ x ∈ g.2 := fun x => by rw [List.mem_filter, decide_eq_true_eq]
  refine ⟨fun a b c d h1 h2 => ?_, ⟨sS.asc.filter _, fun v hv => sS.rng v (List.mem_filter.mp hv).1, fun u hu v hv z => sS.free u (List.mem_filter.mp hu).1 v (List.mem_filter.mp hv).1 (List.mem_filter.mp z).1⟩, ⟨.nil, (fun _ h => nomatch h), (fun _ h => nomatch h), fun L sub cl x hx => ?_⟩⟩
  · have ha := ((near_in f).mp h1).2.1
    have hc := ((near_in f).mp h2).2.1
    exact inner ha ((gr.conn lab hg ha c).mpr hc)
  · have memS : ∀ x, x ∈ S.filter (fun x => !decide (x ∈ G)) ↔ x ∈ S ∧ x ∉ G := fun x => by rw [List.mem_filter, Bool.not_eq_true', decide_eq_false_iff_not]
    refine (gS.apart h f sS memS).max L (fun y hy => ?_) (Cl.of fun y hy z hz => ?_) x hx
    · obtain ⟨y1, y2⟩ := (memA y).mp (sub y hy)
      exact (memS y).mpr ⟨y1, ((h.mem y).mp ((key y).mp y2).1).2.1⟩
    · have y2 := ((memA y).mp (sub y hy)).2
      obtain ⟨z1, zw, yw⟩ := (near_in f).mp hz
      have zg : z ∈ g.2 := stay y2 (adj_in.mpr ⟨(near_adj z1).symm, yw, zw⟩)
      obtain ⟨w, w1, w2, w3⟩ := cl.other hy ((near_in f).mpr ⟨z1, zg, y2⟩)
      obtain ⟨w4, w5, _⟩ := (near_in f).mp w3
      exact ⟨w, w1, w2, (near_in f).mpr ⟨w4, ((key w).mp w5).1, zw⟩⟩
def cntS (S b : List Int) : Nat := (S.filter fun l => decide (l ∈ b)).length
def normOf (m : Nat) (es : List (Int × Int)) (S b : List Int) : List Int := normL m (inE es b) (cntS S b)
theorem Pce.norm {S b : List Int} (f : IsFor m es) (h : Pce m es S b) : (normS m (inE es b) (cntS S b)).length = cntS S b ∧ ∃ T, Rch m (inE es b) (S.filter fun l => decide (l ∈ b)) T ∧ (normOf m es S b).Nodup ∧ ∀ x, x ∈ T ↔ x ∈ normOf m es S b :=
  norm_reach (f.part _) h.one h.set h.gr rfl
theorem norm_all {G ws S : List Int} {lb : Int → Int} {gs : List (Int × List Int)} (h : Apt m es G ws) (f : IsFor m es) (sS : IsSet m es S) (gS : IsGr m es S G) (lab : Lab es ws lb) (gr : Grp lb ws gs) : ∀ ps : List (Int × List Int), (∀ g ∈ ps, g ∈ gs) → (ps.map (·.1)).Nodup →
    (G ++ ps.flatMap fun g => normOf m es S g.2).Nodup ∧ (∀ g ∈ ps, ∀ x ∈ normOf m es S g.2, x ∈ g.2) ∧ ∃ T, Rch m es S T ∧ ∀ x, x ∈ T ↔ x ∈ G ++ (ps.flatMap fun g => normOf m es S g.2) ∨ (x ∈ S ∧ x ∉ G ∧ ∀ g ∈ ps, x ∉ g.2)
  | [], _, _ => by
    refine ⟨by rw [List.flatMap_nil, List.append_nil]; exact gS.asc.nodup, (fun _ h => nomatch h), S, .refl, fun x => ?_⟩
    rw [List.flatMap_nil, List.append_nil]
    constructor
    · intro hx
      by_cases e : x ∈ G
      · exact .inl e
      · exact .inr ⟨hx, e, fun _ h => nomatch h⟩
    · rintro (hx | hx)
      · exact gS.sub x hx
      · exact hx.1
  | g :: ps, hps, nd => by
    have nd' := List.nodup_cons.mp nd
    have hg := hps g List.mem_cons_self
    obtain ⟨ihn, ihs, T, rT, mT⟩ := norm_all h f sS gS lab gr ps (fun q hq => hps q (List.mem_cons_of_mem _ hq)) nd'.2
    have key : ∀ q ∈ gs, ∀ x, x ∈ q.2 ↔ x ∈ ws ∧ lb x = q.1 := fun q hq x => by rw [(gr.is q hq).1, List.mem_filter, decide_eq_true_eq]
    have dis : ∀ q ∈ ps, ∀ x, x ∈ q.2 → x ∉ g.2 := fun q hq x h1 h2 => by
      have a := ((key q (hps q (List.mem_cons_of_mem _ hq)) x).mp h1).2
      have b := ((key g hg x).mp h2).2
      exact nd'.1 (List.mem_map.mpr ⟨q, hq, by rw [← a, b]⟩)
    have gw : ∀ x ∈ g.2, x ∈ ws := fun x hx => ((key g hg x).mp hx).1
    have pc := pce_of h f sS gS lab gr hg
    obtain ⟨_, N, rN, ndN, mN⟩ := pc.norm f
    have sT := (rT.both f sS).1
    -- the lamps of the piece are still there
    have same : ∀ x, x ∈ g.2 → (x ∈ T ↔ x ∈ S) := fun x hx => by
      have nG : x ∉ G := ((h.mem x).mp (gw x hx)).2.1
      rw [mT x, List.mem_append, List.mem_flatMap]
      constructor
      · rintro ((z | ⟨q, hq, z⟩) | z)
        · exact absurd z nG
        · exact absurd hx (dis q hq x (ihs q hq x z))
        · exact z.1
      · intro z
        exact .inr ⟨z, nG, fun q hq z2 => dis q hq x z2 hx⟩
    have memA : ∀ x, x ∈ S.filter (fun l => decide (l ∈ g.2)) ↔ x ∈ S ∧ x ∈ g.2 := fun x => by rw [List.mem_filter, decide_eq_true_eq]
    have memW : ∀ x, x ∈ T.filter (fun l => !decide (l ∈ g.2)) ↔ x ∈ T ∧ x ∉ g.2 := fun x => by rw [List.mem_filter, Bool.not_eq_true', decide_eq_false_iff_not]
    have gT := rT.gr f sS gS
    obtain ⟨hN, B1, rB, hB1⟩ := rN.inPiece f (W := T.filter fun l => !decide (l ∈ g.2)) (A1 := T) (fun b hb => ⟨fun z => ((memW b).mp z).2 hb, fun o ho z => by
      obtain ⟨z1, z2⟩ := (memW o).mp z
      have oG : o ∉ G := ((h.mem b).mp (gw b hb)).2.2 o ho
      have ow := h.lamp f sT gT.sub z1 oG
      exact z2 ((gr.conn lab hg hb o).mp (.step (.refl _) (adj_in.mpr ⟨(near_adj ho).symm, gw b hb, ow⟩)))⟩) (fun x hx => ((memA x).mp hx).2) (fun x => by
      rw [memA, memW]
      by_cases e : x ∈ g.2
      · rw [same x e]
        exact ⟨fun z => .inl ⟨z, e⟩, fun z => z.elim (·.1) (fun z => absurd e z.2)⟩
      · exact ⟨fun z => .inr ⟨z, e⟩, fun z => z.elim (fun z => absurd z.2 e) (·.1)⟩)
    have nmem : ∀ x ∈ normOf m es S g.2, x ∈ g.2 := fun x hx => hN x ((mN x).mpr hx)
    refine ⟨?_, fun q hq x hx => ?_, B1, rT.trans rB, fun x => ?_⟩
    · rw [List.flatMap_cons]
      have e : (G ++ (normOf m es S g.2 ++ ps.flatMap fun g => normOf m es S g.2)).Perm (normOf m es S g.2 ++ (G ++ ps.flatMap fun g => normOf m es S g.2)) := by
        rw [← List.append_assoc, ← List.append_assoc]
        exact List.perm_append_comm.append_right _
      refine e.nodup_iff.mpr (List.nodup_append.mpr ⟨ndN, ihn, fun a ha b hb e => ?_⟩)
      subst e
      have ag := nmem a ha
      rcases List.mem_append.mp hb with z | z
      · exact ((h.mem a).mp (gw a ag)).2.1 z
      · obtain ⟨q, hq, z⟩ := List.mem_flatMap.mp z
        exact dis q hq a (ihs q hq a z) ag
    · rcases List.mem_cons.mp hq with rfl | hq
      · exact nmem x hx
      · exact ihs q hq x hx
    · rw [hB1 x, mN x, memW, mT x, List.flatMap_cons, List.mem_append, List.mem_append, List.mem_append]
      constructor
      · rintro (z | ⟨(z | z) | z, n⟩)
        · exact .inl (.inr (.inl z))
        · exact .inl (.inl z)
        · exact .inl (.inr (.inr z))
        · refine .inr ⟨z.1, z.2.1, fun q hq => ?_⟩
          rcases List.mem_cons.mp hq with rfl | hq
          · exact n
          · exact z.2.2 q hq
      · rintro ((z | (z | z)) | z)
        · exact .inr ⟨.inl (.inl z), fun e => ((h.mem x).mp (gw x e)).2.1 z⟩
        · exact .inl z
        · obtain ⟨q, hq, z2⟩ := List.mem_flatMap.mp z
          exact .inr ⟨.inl (.inr z), fun e => dis q hq x (ihs q hq x z2) e⟩
        · exact .inr ⟨.inr ⟨z.1, z.2.1, fun q hq => z.2.2 q (List.mem_cons_of_mem _ hq)⟩, z.2.2 g List.mem_cons_self⟩
/-- the normal setting is reached -/
theorem norm_set {G ws S : List Int} {lb : Int → Int} {gs : List (Int × List Int)} (h : Apt m es G ws) (f : IsFor m es) (sS : IsSet m es S) (gS : IsGr m es S G) (lab : Lab es ws lb) (gr : Grp lb ws gs) :
    Rch m es S (srtI (G ++ gs.flatMap fun g => normOf m es S g.2)) := by
  obtain ⟨nd, _, T, rT, mT⟩ := norm_all h f sS gS lab gr gs (fun _ h => h) gr.nd
  have e : T = srtI (G ++ gs.flatMap fun g => normOf m es S g.2) := asc_ext (rT.both f sS).1.asc (srtI_asc nd) fun x => by
    rw [mT x, mem_srtI]
    refine ⟨fun z => z.elim id fun z => ?_, .inl⟩
    exfalso
    have xw := h.lamp f sS gS.sub z.1 z.2.1
    obtain ⟨g, hg, e⟩ := List.mem_map.mp (gr.all x xw)
    refine z.2.2 g hg ?_
    rw [(gr.is g hg).1, List.mem_filter, decide_eq_true_eq]
    exact ⟨xw, e.symm⟩
  rw [← e]
  exact rT
end
end TL
namespace TL
/-! ### two forests side by side: slides, walks, locks, normal lamps -/
def bothL (m : Nat) (A B : List Int) : List Int := A ++ B.map (· + (m : Int))
def besE (m : Nat) (es fs : List (Int × Int)) : List (Int × Int) := es ++ fs.map (shf m)
section
variable {m n : Nat} {es fs : List (Int × Int)} {A B A' B' G G2 : List Int}
theorem mem_both {x : Int} : x ∈ bothL m A B ↔ x ∈ A ∨ (x - m) ∈ B := by
  unfold bothL
  rw [List.mem_append, List.mem_map]
  constructor
  · rintro (h | ⟨y, hy, rfl⟩)
    · exact .inl h
    · right
      rw [show y + (m : Int) - m = y by omega]
      exact hy
  · rintro (h | h)
    · exact .inl h
    · exact .inr ⟨_, h, by omega⟩
theorem both_len : (bothL m A B).length = A.length + B.length := by
  unfold bothL
  rw [List.length_append, List.length_map]
theorem both_asc (a : Asc A) (b : Asc B) (hA : ∀ x ∈ A, 0 ≤ x ∧ x < (m : Int)) (hB : ∀ x ∈ B, 0 ≤ x ∧ x < (n : Int)) : Asc (bothL m A B) := by
  refine List.pairwise_append.mpr ⟨a, List.pairwise_map.mpr (b.imp fun h => by omega), fun x hx y hy => ?_⟩
  obtain ⟨z, hz, rfl⟩ := List.mem_map.mp hy
  have := hA x hx
  have := hB z hz
  omega
theorem both_left (hB : ∀ x ∈ B, 0 ≤ x ∧ x < (n : Int)) {x : Int} (hx : x < m) : x ∈ bothL m A B ↔ x ∈ A := by
  rw [mem_both]
  refine ⟨fun h => h.elim id fun h => ?_, .inl⟩
  have := hB _ h
  omega
theorem both_right (hA : ∀ x ∈ A, 0 ≤ x ∧ x < (m : Int)) {x : Int} (hx : 0 ≤ x) : x + m ∈ bothL m A B ↔ x ∈ B := by
  rw [mem_both, show x + (m : Int) - m = x by omega]
  refine ⟨fun h => h.elim (fun h => ?_) id, .inr⟩
  have := hA _ h
  omega
theorem both_rng (hA : ∀ x ∈ A, 0 ≤ x ∧ x < (m : Int)) (hB : ∀ x ∈ B, 0 ≤ x ∧ x < (n : Int)) : ∀ x ∈ bothL m A B, 0 ≤ x ∧ x < ((m + n : Nat) : Int) := fun x hx => by
  rcases mem_both.mp hx with h | h
  · have := hA _ h
    omega
  · have := hB _ h
    omega
theorem both_inj (hA : ∀ x ∈ A, 0 ≤ x ∧ x < (m : Int)) (hA' : ∀ x ∈ A', 0 ≤ x ∧ x < (m : Int)) (hB : ∀ x ∈ B, 0 ≤ x ∧ x < (n : Int)) (hB' : ∀ x ∈ B', 0 ≤ x ∧ x < (n : Int)) (a : Asc A) (a' : Asc A') (b : Asc B) (b' : Asc B')
    (e : bothL m A B = bothL m A' B') : A = A' ∧ B = B' := by
  constructor
  · refine asc_ext a a' fun x => ⟨fun hx => ?_, fun hx => ?_⟩
    · have r := hA x hx
      exact (both_left hB' r.2).mp (e ▸ (both_left hB r.2).mpr hx)
    · have r := hA' x hx
      exact (both_left hB r.2).mp (e.symm ▸ (both_left hB' r.2).mpr hx)
  · refine asc_ext b b' fun x => ⟨fun hx => ?_, fun hx => ?_⟩
    · have r := hB x hx
      exact (both_right hA' r.1).mp (e ▸ (both_right hA r.1).mpr hx)
    · have r := hB' x hx
      exact (both_right hA r.1).mp (e.symm ▸ (both_right hA' r.1).mpr hx)
theorem bes_for (f : IsFor m es) (g : IsFor n fs) : IsFor (m + n) (besE m es fs) := f.beside g
theorem ord_shf {u v : Int} : ordP u v ∈ fs.map (shf m) ↔ ordP (u - m) (v - m) ∈ fs := by
  have key : ordP u v = shf m (ordP (u - m) (v - m)) := by
    have h := ordP_add (u - m) (v - m) m
    rw [show u - (m : Int) + m = u by omega, show v - (m : Int) + m = v by omega] at h
    exact h
  rw [List.mem_map]
  constructor
  · rintro ⟨p, hp, e⟩
    rw [key] at e
    have : p = ordP (u - m) (v - m) := by
      unfold shf at e
      injection e with e1 e2
      exact Prod.ext (by omega) (by omega)
    rw [← this]
    exact hp
  · intro h
    exact ⟨_, h, key.symm⟩
theorem bes_edge {u v : Int} : ordP u v ∈ besE m es fs ↔ ordP u v ∈ es ∨ ordP (u - m) (v - m) ∈ fs := by
  unfold besE
  rw [List.mem_append, ord_shf]
theorem ord_rng (f : IsFor m es) {u v : Int} (h : ordP u v ∈ es) : (0 ≤ u ∧ u < (m : Int)) ∧ 0 ≤ v ∧ v < (m : Int) := by
  have r := f.rng _ h
  unfold ordP at r
  split at r <;> simp only at r <;> omega
theorem near_left (f : IsFor m es) (g : IsFor n fs) {v : Int} (hv : v < m) : nearL (m + n) (besE m es fs) v = nearL m es v := by
  refine asc_ext (nearL_asc _ _ _) (nearL_asc _ _ _) fun o => ?_
  rw [mem_nearL, mem_nearL, bes_edge]
  constructor
  · rintro ⟨_, h | h⟩
    · exact ⟨(ord_rng f h).1, h⟩
    · have := ord_rng g h
      omega
  · rintro ⟨h1, h2⟩
    exact ⟨by omega, .inl h2⟩
theorem near_right (f : IsFor m es) (g : IsFor n fs) {v : Int} (hv : 0 ≤ v) : nearL (m + n) (besE m es fs) (v + m) = (nearL n fs v).map (· + (m : Int)) := by
  refine asc_ext (nearL_asc _ _ _) (List.pairwise_map.mpr ((nearL_asc n fs v).imp fun h => by omega)) fun o => ?_
  rw [mem_nearL, bes_edge, List.mem_map]
  constructor
  · rintro ⟨_, h | h⟩
    · have := ord_rng f h
      omega
    · rw [show v + (m : Int) - m = v by omega] at h
      exact ⟨o - m, mem_nearL.mpr ⟨(ord_rng g h).1, h⟩, by omega⟩
  · rintro ⟨x, hx, rfl⟩
    obtain ⟨h1, h2⟩ := mem_nearL.mp hx
    refine ⟨by omega, .inr ?_⟩
    rw [show x + (m : Int) - m = x by omega, show v + (m : Int) - m = v by omega]
    exact h2
theorem mem_near_right (f : IsFor m es) (g : IsFor n fs) {v o : Int} (hv : 0 ≤ v) : o + m ∈ nearL (m + n) (besE m es fs) (v + m) ↔ o ∈ nearL n fs v := by
  rw [near_right f g hv, List.mem_map]
  constructor
  · rintro ⟨x, hx, e⟩
    have : x = o := by omega
    rw [← this]
    exact hx
  · intro h
    exact ⟨o, h, rfl⟩
theorem bes_set (f : IsFor m es) (g : IsFor n fs) (a : IsSet m es A) (b : IsSet n fs B) : IsSet (m + n) (besE m es fs) (bothL m A B) := by
  refine ⟨both_asc a.asc b.asc a.rng b.rng, both_rng a.rng b.rng, fun u hu v hv e => ?_⟩
  rcases bes_edge.mp e with e | e
  · obtain ⟨r1, r2⟩ := ord_rng f e
    exact a.free u ((both_left b.rng r1.2).mp hu) v ((both_left b.rng r2.2).mp hv) e
  · obtain ⟨r1, r2⟩ := ord_rng g e
    have h1 : u - m ∈ B := (both_right a.rng r1.1).mp (by rw [show u - (m : Int) + m = u by omega]; exact hu)
    have h2 : v - m ∈ B := (both_right a.rng r2.1).mp (by rw [show v - (m : Int) + m = v by omega]; exact hv)
    exact b.free _ h1 _ h2 e
theorem oth_left (f : IsFor m es) (g : IsFor n fs) (hB : ∀ x ∈ B, 0 ≤ x ∧ x < (n : Int)) {u v : Int} (hv : v < m) : oth (m + n) (besE m es fs) (bothL m A B) u v = oth m es A u v := by
  unfold oth
  rw [near_left f g hv]
  refine List.filter_congr fun o ho => ?_
  have := (mem_nearL.mp ho).1
  congr 1
  exact decide_eq_decide.mpr (both_left hB this.2)
theorem oth_right (f : IsFor m es) (g : IsFor n fs) (hA : ∀ x ∈ A, 0 ≤ x ∧ x < (m : Int)) {u v : Int} (hv : 0 ≤ v) : oth (m + n) (besE m es fs) (bothL m A B) (u + m) (v + m) = [] ↔ oth n fs B u v = [] := by
  rw [List.eq_nil_iff_forall_not_mem, List.eq_nil_iff_forall_not_mem]
  constructor
  · intro no o ho
    obtain ⟨h1, h2, h3⟩ := mem_oth.mp ho
    have r := (mem_nearL.mp h1).1
    exact no (o + m) (mem_oth.mpr ⟨(mem_near_right f g hv).mpr h1, (both_right hA r.1).mpr h2, fun e => h3 (by omega)⟩)
  · intro no o ho
    obtain ⟨h1, h2, h3⟩ := mem_oth.mp ho
    rw [near_right f g hv] at h1
    obtain ⟨x, hx, rfl⟩ := List.mem_map.mp h1
    have r := (mem_nearL.mp hx).1
    exact no x (mem_oth.mpr ⟨hx, (both_right hA r.1).mp h2, fun e => h3 (by omega)⟩)
theorem slide_left (f : IsFor m es) (g : IsFor n fs) (hA : ∀ x ∈ A, 0 ≤ x ∧ x < (m : Int)) (hB : ∀ x ∈ B, 0 ≤ x ∧ x < (n : Int)) {u v : Int} (p : (u, v) ∈ slidesP m es A) : (u, v) ∈ slidesP (m + n) (besE m es fs) (bothL m A B) := by
  obtain ⟨h1, h2, h3⟩ := mem_slidesP.mp p
  have r1 := hA _ h1
  have r2 := (mem_nearL.mp h2).1
  exact mem_slidesP.mpr ⟨(both_left hB r1.2).mpr h1, by rw [near_left f g r1.2]; exact h2, by rw [oth_left f g hB r2.2]; exact h3⟩
theorem slide_right (f : IsFor m es) (g : IsFor n fs) (hA : ∀ x ∈ A, 0 ≤ x ∧ x < (m : Int)) (hB : ∀ x ∈ B, 0 ≤ x ∧ x < (n : Int)) {u v : Int} (p : (u, v) ∈ slidesP n fs B) : (u + (m : Int), v + (m : Int)) ∈ slidesP (m + n) (besE m es fs) (bothL m A B) := by
  obtain ⟨h1, h2, h3⟩ := mem_slidesP.mp p
  have r1 := hB _ h1
  have r2 := (mem_nearL.mp h2).1
  exact mem_slidesP.mpr ⟨(both_right hA r1.1).mpr h1, (mem_near_right f g r1.1).mpr h2, (oth_right f g hA r2.1).mpr h3⟩
theorem slide_split (f : IsFor m es) (g : IsFor n fs) (hA : ∀ x ∈ A, 0 ≤ x ∧ x < (m : Int)) (hB : ∀ x ∈ B, 0 ≤ x ∧ x < (n : Int)) {u v : Int} (p : (u, v) ∈ slidesP (m + n) (besE m es fs) (bothL m A B)) :
    (u, v) ∈ slidesP m es A ∨ ∃ a b, u = a + m ∧ v = b + m ∧ (a, b) ∈ slidesP n fs B := by
  obtain ⟨h1, h2, h3⟩ := mem_slidesP.mp p
  rcases mem_both.mp h1 with hu | hu
  · left
    have r1 := hA _ hu
    rw [near_left f g r1.2] at h2
    have r2 := (mem_nearL.mp h2).1
    rw [oth_left f g hB r2.2] at h3
    exact mem_slidesP.mpr ⟨hu, h2, h3⟩
  · right
    have r1 := hB _ hu
    have eu : u = (u - m) + m := by omega
    rw [eu, near_right f g r1.1] at h2
    obtain ⟨b, hb, ev⟩ := List.mem_map.mp h2
    have r2 := (mem_nearL.mp hb).1
    rw [eu, ← ev] at h3
    exact ⟨u - m, b, eu, ev.symm, mem_slidesP.mpr ⟨hu, hb, (oth_right f g hA r2.1).mp h3⟩⟩
theorem after_left (f : IsFor m es) (g : IsFor n fs) (a : IsSet m es A) (b : IsSet n fs B) {u v : Int} (p : (u, v) ∈ slidesP m es A) : after (bothL m A B) u v = bothL m (after A u v) B := by
  have a' := IsSet.slide f a p
  have s' := IsSet.slide (bes_for f g) (bes_set f g a b) (slide_left f g a.rng b.rng p)
  obtain ⟨h1, h2, _⟩ := mem_slidesP.mp p
  have ru := a.rng _ h1
  refine asc_ext s'.asc (both_asc a'.asc b.asc a'.rng b.rng) fun x => ?_
  show x ∈ after _ _ _ ↔ _
  rw [mem_after, mem_both, mem_both]
  show _ ↔ x ∈ after A u v ∨ _
  rw [mem_after]
  constructor
  · rintro (⟨h | h, ne⟩ | rfl)
    · exact .inl (.inl ⟨h, ne⟩)
    · exact .inr h
    · exact .inl (.inr rfl)
  · rintro ((⟨h, ne⟩ | rfl) | h)
    · exact .inl ⟨.inl h, ne⟩
    · exact .inr rfl
    · have := b.rng _ h
      exact .inl ⟨.inr h, by omega⟩
theorem after_right (f : IsFor m es) (g : IsFor n fs) (a : IsSet m es A) (b : IsSet n fs B) {u v : Int} (p : (u, v) ∈ slidesP n fs B) : after (bothL m A B) (u + m) (v + m) = bothL m A (after B u v) := by
  have b' := IsSet.slide g b p
  have s' := IsSet.slide (bes_for f g) (bes_set f g a b) (slide_right f g a.rng b.rng p)
  obtain ⟨h1, h2, _⟩ := mem_slidesP.mp p
  have ru := b.rng _ h1
  refine asc_ext s'.asc (both_asc a.asc b'.asc a.rng b'.rng) fun x => ?_
  show x ∈ after _ _ _ ↔ _
  rw [mem_after, mem_both, mem_both]
  show _ ↔ _ ∨ x - m ∈ after B u v
  rw [mem_after]
  constructor
  · rintro (⟨h | h, ne⟩ | rfl)
    · exact .inl h
    · exact .inr (.inl ⟨h, fun e => ne (by omega)⟩)
    · exact .inr (.inr (by omega))
  · rintro (h | ⟨h, ne⟩ | e)
    · have := a.rng _ h
      exact .inl ⟨.inl h, by omega⟩
    · exact .inl ⟨.inr h, fun e => ne (by omega)⟩
    · exact .inr (by omega)
theorem Rn.kept (f : IsFor m es) (s : IsSet m es A) {k : Nat} (r : Rn m es A k A') : IsSet m es A' := (r.rch.both f s).1
theorem Rn.app {T W : List Int} {i j : Nat} (h : Rn m es A i T) (k : Rn m es T j W) : Rn m es A (i + j) W := by
  induction k with
  | zero => exact h
  | step _ p ih => exact .step ih p
theorem Rn.left (f : IsFor m es) (g : IsFor n fs) (a : IsSet m es A) (b : IsSet n fs B) {i : Nat} (r : Rn m es A i A') : Rn (m + n) (besE m es fs) (bothL m A B) i (bothL m A' B) := by
  induction r with
  | zero => exact .zero
  | step r p ih =>
    have s := r.kept f a
    rw [← after_left f g s b p]
    exact .step ih (slide_left f g s.rng b.rng p)
theorem Rn.right (f : IsFor m es) (g : IsFor n fs) (a : IsSet m es A) (b : IsSet n fs B) {i : Nat} (r : Rn n fs B i B') : Rn (m + n) (besE m es fs) (bothL m A B) i (bothL m A B') := by
  induction r with
  | zero => exact .zero
  | step r p ih =>
    have s := r.kept g b
    rw [← after_right f g a s p]
    exact .step ih (slide_right f g a.rng s.rng p)
theorem Rn.split (f : IsFor m es) (g : IsFor n fs) (a : IsSet m es A) (b : IsSet n fs B) {k : Nat} {W : List Int} (r : Rn (m + n) (besE m es fs) (bothL m A B) k W) : ∃ i j A' B', k = i + j ∧ W = bothL m A' B' ∧ Rn m es A i A' ∧ Rn n fs B j B' := by
  induction r with
  | zero => exact ⟨0, 0, A, B, rfl, rfl, .zero, .zero⟩
  | step r p ih =>
    obtain ⟨i, j, A', B', e, rfl, r1, r2⟩ := ih
    have s1 := r1.kept f a
    have s2 := r2.kept g b
    rcases slide_split f g s1.rng s2.rng p with q | ⟨x, y, rfl, rfl, q⟩
    · exact ⟨i + 1, j, _, B', by omega, after_left f g s1 s2 q, .step r1 q, r2⟩
    · exact ⟨i, j + 1, A', _, by omega, after_right f g s1 s2 q, r1, .step r2 q⟩
theorem rch_split (f : IsFor m es) (g : IsFor n fs) (a : IsSet m es A) (b : IsSet n fs B) {W : List Int} : Rch (m + n) (besE m es fs) (bothL m A B) W ↔ ∃ A' B', W = bothL m A' B' ∧ Rch m es A A' ∧ Rch n fs B B' := by
  constructor
  · intro r
    obtain ⟨k, hk⟩ := r.rn
    obtain ⟨i, j, A', B', _, e, r1, r2⟩ := hk.split f g a b
    exact ⟨A', B', e, r1.rch, r2.rch⟩
  · rintro ⟨A', B', rfl, r1, r2⟩
    obtain ⟨i, hi⟩ := r1.rn
    obtain ⟨j, hj⟩ := r2.rn
    exact ((hi.left f g a b).app (hj.right f g (hi.kept f a) b)).rch
theorem dst_both (f : IsFor m es) (g : IsFor n fs) (a : IsSet m es A) (b : IsSet n fs B) {i j : Nat} (h1 : Dst m es A i A') (h2 : Dst n fs B j B') : Dst (m + n) (besE m es fs) (bothL m A B) (i + j) (bothL m A' B') := by
  have s1 := h1.1.kept f a
  have s2 := h2.1.kept g b
  refine ⟨(h1.1.left f g a b).app (h2.1.right f g s1 b), fun k hk => ?_⟩
  obtain ⟨i', j', A2, B2, rfl, e, r1, r2⟩ := hk.split f g a b
  have t1 := r1.kept f a
  have t2 := r2.kept g b
  obtain ⟨e1, e2⟩ := both_inj s1.rng t1.rng s2.rng t2.rng s1.asc t1.asc s2.asc t2.asc e
  subst e1 e2
  have := h1.2 _ r1
  have := h2.2 _ r2
  omega
theorem walk_left (f : IsFor m es) (g : IsFor n fs) (b : IsSet n fs B) : ∀ {ps : List (Int × Int)} {A T : List Int}, IsSet m es A → walk m es A ps = some T → walk (m + n) (besE m es fs) (bothL m A B) ps = some (bothL m T B)
  | [], A, T, _, w => by
    cases w
    rfl
  | p :: ps, A, T, a, w => by
    obtain ⟨hp, w2⟩ := walk_cons w
    have hp' : (p.1, p.2) ∈ slidesP m es A := hp
    rw [walk_push (slide_left f g a.rng b.rng hp'), after_left f g a b hp']
    exact walk_left f g b (IsSet.slide f a hp) w2
theorem walk_right (f : IsFor m es) (g : IsFor n fs) (a : IsSet m es A) : ∀ {ps : List (Int × Int)} {B T : List Int}, IsSet n fs B → walk n fs B ps = some T → walk (m + n) (besE m es fs) (bothL m A B) (ps.map (shf m)) = some (bothL m A T)
  | [], B, T, _, w => by
    cases w
    rfl
  | p :: ps, B, T, b, w => by
    obtain ⟨hp, w2⟩ := walk_cons w
    have hp' : (p.1, p.2) ∈ slidesP n fs B := hp
    rw [List.map_cons, walk_push (show shf m p ∈ _ from slide_right f g a.rng b.rng hp')]
    show walk _ _ (after (bothL m A B) (p.1 + m) (p.2 + m)) _ = _
    rw [after_right f g a b hp']
    exact walk_right f g a (IsSet.slide g b hp) w2
/-! locks -/
theorem gr_both (f : IsFor m es) (g : IsFor n fs) (a : IsSet m es A) (b : IsSet n fs B) (h1 : IsGr m es A G) (h2 : IsGr n fs B G2) : IsGr (m + n) (besE m es fs) (bothL m A B) (bothL m G G2) := by
  have rG : ∀ x ∈ G, 0 ≤ x ∧ x < (m : Int) := fun x hx => a.rng x (h1.sub x hx)
  have rG2 : ∀ x ∈ G2, 0 ≤ x ∧ x < (n : Int) := fun x hx => b.rng x (h2.sub x hx)
  refine ⟨both_asc h1.asc h2.asc rG rG2, fun x hx => ?_, fun x hx v hv e => ?_, fun W hW cW x hx => ?_⟩
  · exact mem_both.mpr ((mem_both.mp hx).imp (h1.sub x) (h2.sub _))
  · rcases mem_both.mp hx with hx | hx
    · have r := rG x hx
      rw [near_left f g r.2] at hv
      rw [oth_left f g rG2 (mem_nearL.mp hv).1.2] at e
      exact h1.cl x hx v hv e
    · have r := rG2 _ hx
      have ex : x = (x - m) + m := by omega
      rw [ex, near_right f g r.1] at hv
      obtain ⟨y, hy, rfl⟩ := List.mem_map.mp hv
      rw [ex] at e
      exact h2.cl _ hx y hy ((oth_right f g rG (mem_nearL.mp hy).1.1).mp e)
  · have wr := both_rng a.rng b.rng
    obtain ⟨T1, e1⟩ : ∃ T, T = A.filter fun y => decide (y ∈ W) := ⟨_, rfl⟩
    obtain ⟨T2, e2⟩ : ∃ T, T = B.filter fun y => decide (y + (m : Int) ∈ W) := ⟨_, rfl⟩
    have in1 : ∀ y, y ∈ T1 ↔ y ∈ A ∧ y ∈ W := fun y => by rw [e1, List.mem_filter, decide_eq_true_eq]
    have in2 : ∀ y, y ∈ T2 ↔ y ∈ B ∧ y + (m : Int) ∈ W := fun y => by rw [e2, List.mem_filter, decide_eq_true_eq]
    have r1 : ∀ y ∈ T1, 0 ≤ y ∧ y < (m : Int) := fun y hy => a.rng y ((in1 y).mp hy).1
    have r2 : ∀ y ∈ T2, 0 ≤ y ∧ y < (n : Int) := fun y hy => b.rng y ((in2 y).mp hy).1
    have eW : ∀ z, z ∈ W ↔ z ∈ bothL m T1 T2 := fun z => by
      rw [mem_both, in1, in2, show z - (m : Int) + m = z by omega]
      constructor
      · intro hz
        exact (mem_both.mp (hW z hz)).imp (fun h => ⟨h, hz⟩) (fun h => ⟨h, hz⟩)
      · rintro (⟨_, h⟩ | ⟨_, h⟩) <;> exact h
    have cT : Cl (m + n) (besE m es fs) (bothL m T1 T2) := fun x hx v hv e => by
      refine cW x ((eW x).mpr hx) v hv ?_
      rw [List.eq_nil_iff_forall_not_mem] at e ⊢
      intro o ho
      obtain ⟨k1, k2, k3⟩ := mem_oth.mp ho
      exact e o (mem_oth.mpr ⟨k1, (eW o).mp k2, k3⟩)
    have c1 : Cl m es T1 := fun x hx v hv e => by
      have r := r1 x hx
      refine cT x (mem_both.mpr (.inl hx)) v (by rw [near_left f g r.2]; exact hv) ?_
      rw [oth_left f g r2 (mem_nearL.mp hv).1.2]
      exact e
    have c2 : Cl n fs T2 := fun x hx v hv e => by
      have r := r2 x hx
      exact cT (x + m) ((both_right r1 r.1).mpr hx) (v + m) ((mem_near_right f g r.1).mpr hv) ((oth_right f g r1 (mem_nearL.mp hv).1.1).mpr e)
    refine mem_both.mpr ((mem_both.mp ((eW x).mp hx)).imp (fun h => ?_) (fun h => ?_))
    · exact h1.max T1 (fun z hz => ((in1 z).mp hz).1) c1 x h
    · exact h2.max T2 (fun z hz => ((in2 z).mp hz).1) c2 _ h
end
end TL
namespace TL
open PySem PySem.Spec PyProof.Rows L2
/-! ### a forest whose vertices have other names -/
def imgL (ns S : List Int) : List Int := srtI (S.map (nam ns))
def renE (ns : List Int) (es : List (Int × Int)) : List (Int × Int) := srtP (es.map (ren ns))
def renP (ns : List Int) (p : Int × Int) : Int × Int := (nam ns p.1, nam ns p.2)
section
variable {m : Nat} {es : List (Int × Int)} {ns S T G : List Int}
theorem mem_img {x : Int} : x ∈ imgL ns S ↔ ∃ y ∈ S, nam ns y = x := by
  unfold imgL
  rw [mem_srtI, List.mem_map]
theorem nam_onto (h : ns.Perm (rng m)) {v : Int} (hv : 0 ≤ v ∧ v < (m : Int)) : ∃ u : Int, (0 ≤ u ∧ u < (m : Int)) ∧ nam ns u = v := by
  have e : (rng m).map (nam ns) = ns := by rw [← perm_len h]; exact nam_rng
  have : v ∈ (rng m).map (nam ns) := by rw [e]; exact h.mem_iff.mpr (mem_rng.mpr hv)
  obtain ⟨u, hu, e⟩ := List.mem_map.mp this
  exact ⟨u, mem_rng.mp hu, e⟩
theorem img_in (h : ns.Perm (rng m)) (hS : ∀ x ∈ S, 0 ≤ x ∧ x < (m : Int)) {x : Int} (hx : 0 ≤ x ∧ x < (m : Int)) : nam ns x ∈ imgL ns S ↔ x ∈ S := by
  rw [mem_img]
  exact ⟨fun ⟨y, hy, e⟩ => nam_inj h (hS y hy) hx e ▸ hy, fun hx => ⟨x, hx, rfl⟩⟩
theorem img_nd (h : ns.Perm (rng m)) (hS : ∀ x ∈ S, 0 ≤ x ∧ x < (m : Int)) (nd : S.Nodup) : (S.map (nam ns)).Nodup := by
  refine List.pairwise_map.mpr (List.Pairwise.imp_of_mem (fun {a b} ha hb ne e => ne (nam_inj h (hS a ha) (hS b hb) e)) nd)
theorem img_asc (h : ns.Perm (rng m)) (hS : ∀ x ∈ S, 0 ≤ x ∧ x < (m : Int)) (nd : S.Nodup) : Asc (imgL ns S) := srtI_asc (img_nd h hS nd)
theorem img_rng (h : ns.Perm (rng m)) (hS : ∀ x ∈ S, 0 ≤ x ∧ x < (m : Int)) : ∀ x ∈ imgL ns S, 0 ≤ x ∧ x < (m : Int) := fun x hx => by
  obtain ⟨y, hy, rfl⟩ := mem_img.mp hx
  exact nam_in h (hS y hy)
theorem img_inj (h : ns.Perm (rng m)) (hS : ∀ x ∈ S, 0 ≤ x ∧ x < (m : Int)) (hT : ∀ x ∈ T, 0 ≤ x ∧ x < (m : Int)) (aS : Asc S) (aT : Asc T) (e : imgL ns S = imgL ns T) : S = T :=
  asc_ext aS aT fun x => ⟨fun hx => (img_in h hT (hS x hx)).mp (e ▸ (img_in h hS (hS x hx)).mpr hx), fun hx => (img_in h hS (hT x hx)).mp (e.symm ▸ (img_in h hT (hT x hx)).mpr hx)⟩
theorem img_len : (imgL ns S).length = S.length := by
  unfold imgL
  rw [srtI_length, List.length_map]
theorem ren_edge (f : IsFor m es) (h : ns.Perm (rng m)) {u v : Int} (hu : 0 ≤ u ∧ u < (m : Int)) (hv : 0 ≤ v ∧ v < (m : Int)) : ordP (nam ns u) (nam ns v) ∈ renE ns es ↔ ordP u v ∈ es := by
  unfold renE
  rw [mem_srtP, List.mem_map]
  constructor
  · rintro ⟨p, hp, e⟩
    have r := f.rng p hp
    have ep : ordP p.1 p.2 = p := ordP_eq (by omega)
    have r1 : 0 ≤ p.1 ∧ p.1 < (m : Int) := by omega
    have r2 : 0 ≤ p.2 ∧ p.2 < (m : Int) := by omega
    rcases ordP_inj (show ordP (nam ns p.1) (nam ns p.2) = _ from e) with ⟨e1, e2⟩ | ⟨e1, e2⟩
    · rw [← nam_inj h r1 hu e1, ← nam_inj h r2 hv e2, ep]
      exact hp
    · rw [← nam_inj h r1 hv e1, ← nam_inj h r2 hu e2, ordP_comm, ep]
      exact hp
  · intro e
    exact ⟨_, e, ren_ord ns u v⟩
theorem ren_near (f : IsFor m es) (h : ns.Perm (rng m)) {u o : Int} (hu : 0 ≤ u ∧ u < (m : Int)) (ho : 0 ≤ o ∧ o < (m : Int)) : nam ns o ∈ nearL m (renE ns es) (nam ns u) ↔ o ∈ nearL m es u := by
  rw [mem_nearL, mem_nearL, ren_edge f h ho hu]
  exact ⟨fun ⟨_, e⟩ => ⟨ho, e⟩, fun ⟨_, e⟩ => ⟨nam_in h ho, e⟩⟩
theorem ren_near_ex (f : IsFor m es) (h : ns.Perm (rng m)) {u o : Int} (hu : 0 ≤ u ∧ u < (m : Int)) (ho : o ∈ nearL m (renE ns es) (nam ns u)) : ∃ x ∈ nearL m es u, nam ns x = o := by
  obtain ⟨x, hx, rfl⟩ := nam_onto h (mem_nearL.mp ho).1
  exact ⟨x, (ren_near f h hu hx).mp ho, rfl⟩
theorem ren_set (f : IsFor m es) (h : ns.Perm (rng m)) (s : IsSet m es S) : IsSet m (renE ns es) (imgL ns S) := by
  refine ⟨img_asc h s.rng s.asc.nodup, img_rng h s.rng, fun u hu v hv e => ?_⟩
  obtain ⟨x, hx, rfl⟩ := mem_img.mp hu
  obtain ⟨y, hy, rfl⟩ := mem_img.mp hv
  exact s.free x hx y hy ((ren_edge f h (s.rng x hx) (s.rng y hy)).mp e)
theorem ren_oth (f : IsFor m es) (h : ns.Perm (rng m)) (hS : ∀ x ∈ S, 0 ≤ x ∧ x < (m : Int)) {u v : Int} (hu : 0 ≤ u ∧ u < (m : Int)) (hv : 0 ≤ v ∧ v < (m : Int)) : oth m (renE ns es) (imgL ns S) (nam ns u) (nam ns v) = [] ↔ oth m es S u v = [] := by
  rw [List.eq_nil_iff_forall_not_mem, List.eq_nil_iff_forall_not_mem]
  constructor
  · intro n o ho
    obtain ⟨h1, h2, h3⟩ := mem_oth.mp ho
    have ro := (mem_nearL.mp h1).1
    exact n (nam ns o) (mem_oth.mpr ⟨(ren_near f h hv ro).mpr h1, (img_in h hS ro).mpr h2, fun e => h3 (nam_inj h ro hu e)⟩)
  · intro n o ho
    obtain ⟨h1, h2, h3⟩ := mem_oth.mp ho
    obtain ⟨x, hx, rfl⟩ := ren_near_ex f h hv h1
    have rx := (mem_nearL.mp hx).1
    exact n x (mem_oth.mpr ⟨hx, (img_in h hS rx).mp h2, fun e => h3 (by rw [e])⟩)
theorem ren_slide (f : IsFor m es) (h : ns.Perm (rng m)) (hS : ∀ x ∈ S, 0 ≤ x ∧ x < (m : Int)) {u v : Int} (hu : 0 ≤ u ∧ u < (m : Int)) (hv : 0 ≤ v ∧ v < (m : Int)) : (nam ns u, nam ns v) ∈ slidesP m (renE ns es) (imgL ns S) ↔ (u, v) ∈ slidesP m es S := by
  rw [mem_slidesP, mem_slidesP, img_in h hS hu, ren_near f h hu hv, ren_oth f h hS hu hv]
theorem ren_slide_ex (f : IsFor m es) (h : ns.Perm (rng m)) (hS : ∀ x ∈ S, 0 ≤ x ∧ x < (m : Int)) {a b : Int} (p : (a, b) ∈ slidesP m (renE ns es) (imgL ns S)) : ∃ u v, (u, v) ∈ slidesP m es S ∧ nam ns u = a ∧ nam ns v = b := by
  obtain ⟨h1, h2, _⟩ := mem_slidesP.mp p
  obtain ⟨u, hu, rfl⟩ := nam_onto h (img_rng h hS _ h1)
  obtain ⟨v, hv, rfl⟩ := nam_onto h (mem_nearL.mp h2).1
  exact ⟨u, v, (ren_slide f h hS hu hv).mp p, rfl, rfl⟩
theorem slide_rng (hS : ∀ x ∈ S, 0 ≤ x ∧ x < (m : Int)) {u v : Int} (p : (u, v) ∈ slidesP m es S) : (0 ≤ u ∧ u < (m : Int)) ∧ 0 ≤ v ∧ v < (m : Int) := by
  obtain ⟨h1, h2, _⟩ := mem_slidesP.mp p
  exact ⟨hS _ h1, (mem_nearL.mp h2).1⟩
theorem ren_slides (f : IsFor m es) (h : ns.Perm (rng m)) (s : IsSet m es S) : srtP ((slidesP m es S).map (renP ns)) = slidesP m (renE ns es) (imgL ns S) := by
  have a' : AscP (slidesP m (renE ns es) (imgL ns S)) := ascP_slides (img_asc h s.rng s.asc.nodup)
  have a : AscP (slidesP m es S) := ascP_slides s.asc
  have nd1 : (slidesP m es S).Nodup := a.imp fun h e => by subst e; unfold LtP at h; omega
  have nd2 : (slidesP m (renE ns es) (imgL ns S)).Nodup := a'.imp fun h e => by subst e; unfold LtP at h; omega
  have nd3 : ((slidesP m es S).map (renP ns)).Nodup := by
    refine List.pairwise_map.mpr (List.Pairwise.imp_of_mem (fun {p q} hp hq ne e => ne ?_) nd1)
    obtain ⟨p1, p2⟩ := slide_rng s.rng (show (p.1, p.2) ∈ _ from hp)
    obtain ⟨q1, q2⟩ := slide_rng s.rng (show (q.1, q.2) ∈ _ from hq)
    injection e with e1 e2
    exact Prod.ext (nam_inj h p1 q1 e1) (nam_inj h p2 q2 e2)
  rw [← srtP_of_asc a']
  refine srtP_congr ((List.perm_ext_iff_of_nodup nd3 nd2).mpr fun p => ?_)
  constructor
  · intro hp
    obtain ⟨q, hq, rfl⟩ := List.mem_map.mp hp
    obtain ⟨q1, q2⟩ := slide_rng s.rng (show (q.1, q.2) ∈ _ from hq)
    exact (ren_slide f h s.rng q1 q2).mpr hq
  · intro hp
    obtain ⟨u, v, huv, e1, e2⟩ := ren_slide_ex f h s.rng (show (p.1, p.2) ∈ _ from hp)
    exact List.mem_map.mpr ⟨(u, v), huv, Prod.ext e1 e2⟩
theorem after_rng (hS : ∀ x ∈ S, 0 ≤ x ∧ x < (m : Int)) {u v : Int} (hv : 0 ≤ v ∧ v < (m : Int)) : ∀ x ∈ after S u v, 0 ≤ x ∧ x < (m : Int) := fun x hx => by
  rcases mem_after.mp hx with ⟨h, _⟩ | rfl
  · exact hS x h
  · exact hv
theorem ren_after (f : IsFor m es) (h : ns.Perm (rng m)) (s : IsSet m es S) {u v : Int} (p : (u, v) ∈ slidesP m es S) : imgL ns (after S u v) = after (imgL ns S) (nam ns u) (nam ns v) := by
  obtain ⟨ru, rv⟩ := slide_rng s.rng p
  have t := IsSet.slide f s p
  have t' := IsSet.slide (f.renamed h) (ren_set f h s) ((ren_slide f h s.rng ru rv).mpr p)
  refine asc_ext (img_asc h t.rng t.asc.nodup) t'.asc fun x => ?_
  rw [mem_after, mem_img]
  constructor
  · rintro ⟨y, hy, rfl⟩
    rcases mem_after.mp hy with ⟨h1, h2⟩ | rfl
    · exact .inl ⟨mem_img.mpr ⟨y, h1, rfl⟩, fun e => h2 (nam_inj h (s.rng y h1) ru e)⟩
    · exact .inr rfl
  · rintro (⟨h1, h2⟩ | rfl)
    · obtain ⟨y, hy, rfl⟩ := mem_img.mp h1
      exact ⟨y, mem_after.mpr (.inl ⟨hy, fun e => h2 (by rw [e])⟩), rfl⟩
    · exact ⟨v, mem_after.mpr (.inr rfl), rfl⟩
theorem Rn.iset (f : IsFor m es) (s : IsSet m es S) {k : Nat} (r : Rn m es S k T) : IsSet m es T := by
  induction r with
  | zero => exact s
  | step _ p ih => exact IsSet.slide f ih p
theorem Rn.ren (f : IsFor m es) (h : ns.Perm (rng m)) (s : IsSet m es S) {k : Nat} (r : Rn m es S k T) : Rn m (renE ns es) (imgL ns S) k (imgL ns T) := by
  induction r with
  | zero => exact .zero
  | step r p ih =>
    have sT := r.iset f s
    obtain ⟨ru, rv⟩ := slide_rng sT.rng p
    rw [ren_after f h sT p]
    exact .step ih ((ren_slide f h sT.rng ru rv).mpr p)
theorem Rn.back_ren (f : IsFor m es) (h : ns.Perm (rng m)) (s : IsSet m es S) {k : Nat} {W : List Int} (r : Rn m (renE ns es) (imgL ns S) k W) : ∃ T, W = imgL ns T ∧ Rn m es S k T := by
  induction r with
  | zero => exact ⟨S, rfl, .zero⟩
  | step r p ih =>
    obtain ⟨T, rfl, rT⟩ := ih
    have sT := rT.iset f s
    obtain ⟨u, v, q, rfl, rfl⟩ := ren_slide_ex f h sT.rng p
    exact ⟨_, (ren_after f h sT q).symm, .step rT q⟩
theorem rn_iff (f : IsFor m es) (h : ns.Perm (rng m)) (s : IsSet m es S) (sT : IsSet m es T) {k : Nat} : Rn m (renE ns es) (imgL ns S) k (imgL ns T) ↔ Rn m es S k T := by
  refine ⟨fun r => ?_, Rn.ren f h s⟩
  obtain ⟨T', e, r'⟩ := r.back_ren f h s
  have s' := r'.iset f s
  rw [img_inj h sT.rng s'.rng sT.asc s'.asc e]
  exact r'
theorem dst_iff (f : IsFor m es) (h : ns.Perm (rng m)) (s : IsSet m es S) (sT : IsSet m es T) {k : Nat} : Dst m (renE ns es) (imgL ns S) k (imgL ns T) ↔ Dst m es S k T := by
  unfold Dst
  rw [rn_iff f h s sT]
  constructor
  · rintro ⟨a, b⟩
    exact ⟨a, fun j hj => b j ((rn_iff f h s sT).mpr hj)⟩
  · rintro ⟨a, b⟩
    exact ⟨a, fun j hj => b j ((rn_iff f h s sT).mp hj)⟩
theorem rch_iff (f : IsFor m es) (h : ns.Perm (rng m)) (s : IsSet m es S) (sT : IsSet m es T) : Rch m (renE ns es) (imgL ns S) (imgL ns T) ↔ Rch m es S T := by
  constructor
  · intro r
    obtain ⟨k, hk⟩ := r.rn
    exact ((rn_iff f h s sT).mp hk).rch
  · intro r
    obtain ⟨k, hk⟩ := r.rn
    exact ((rn_iff f h s sT).mpr hk).rch
theorem rch_ex (f : IsFor m es) (h : ns.Perm (rng m)) (s : IsSet m es S) {W : List Int} : Rch m (renE ns es) (imgL ns S) W ↔ ∃ T, W = imgL ns T ∧ Rch m es S T := by
  constructor
  · intro r
    obtain ⟨k, hk⟩ := r.rn
    obtain ⟨T, e, r'⟩ := hk.back_ren f h s
    exact ⟨T, e, r'.rch⟩
  · rintro ⟨T, rfl, r⟩
    exact (rch_iff f h s (r.both f s).1).mpr r
theorem walk_ren (f : IsFor m es) (h : ns.Perm (rng m)) : ∀ {ps : List (Int × Int)} {S T : List Int}, IsSet m es S → walk m es S ps = some T → walk m (renE ns es) (imgL ns S) (ps.map (renP ns)) = some (imgL ns T)
  | [], S, T, _, w => by
    cases w
    rfl
  | p :: ps, S, T, s, w => by
    obtain ⟨hp, w2⟩ := walk_cons w
    obtain ⟨ru, rv⟩ := slide_rng s.rng (show (p.1, p.2) ∈ _ from hp)
    rw [List.map_cons, walk_push (show renP ns p ∈ _ from (ren_slide f h s.rng ru rv).mpr hp)]
    have e := ren_after f h s (show (p.1, p.2) ∈ _ from hp)
    show walk m (renE ns es) (after (imgL ns S) (nam ns p.1) (nam ns p.2)) _ = _
    rw [← e]
    exact walk_ren f h (IsSet.slide f s hp) w2
theorem ren_cl (f : IsFor m es) (h : ns.Perm (rng m)) (hT : ∀ x ∈ T, 0 ≤ x ∧ x < (m : Int)) : Cl m (renE ns es) (imgL ns T) ↔ Cl m es T := by
  constructor
  · intro c x hx v hv e
    have rv := (mem_nearL.mp hv).1
    exact c (nam ns x) (mem_img.mpr ⟨x, hx, rfl⟩) (nam ns v) ((ren_near f h (hT x hx) rv).mpr hv) ((ren_oth f h hT (hT x hx) rv).mpr e)
  · intro c x hx v hv e
    obtain ⟨y, hy, rfl⟩ := mem_img.mp hx
    obtain ⟨z, hz, rfl⟩ := ren_near_ex f h (hT y hy) hv
    exact c y hy z hz ((ren_oth f h hT (hT y hy) (mem_nearL.mp hz).1).mp e)
theorem IsGr.ren (f : IsFor m es) (h : ns.Perm (rng m)) (s : IsSet m es S) (g : IsGr m es S G) : IsGr m (renE ns es) (imgL ns S) (imgL ns G) := by
  have rG : ∀ x ∈ G, 0 ≤ x ∧ x < (m : Int) := fun x hx => s.rng x (g.sub x hx)
  refine ⟨img_asc h rG g.asc.nodup, fun x hx => ?_, (ren_cl f h rG).mpr g.cl, fun W hW cW x hx => ?_⟩
  · obtain ⟨y, hy, rfl⟩ := mem_img.mp hx
    exact mem_img.mpr ⟨y, g.sub y hy, rfl⟩
  · obtain ⟨T, hT⟩ : ∃ T, T = S.filter fun y => decide (nam ns y ∈ W) := ⟨_, rfl⟩
    have inT : ∀ y, y ∈ T ↔ y ∈ S ∧ nam ns y ∈ W := fun y => by rw [hT, List.mem_filter, decide_eq_true_eq]
    have rT : ∀ y ∈ T, 0 ≤ y ∧ y < (m : Int) := fun y hy => s.rng y ((inT y).mp hy).1
    have eW : ∀ z, z ∈ W ↔ z ∈ imgL ns T := fun z => by
      rw [mem_img]
      constructor
      · intro hz
        obtain ⟨y, hy, rfl⟩ := mem_img.mp (hW z hz)
        exact ⟨y, (inT y).mpr ⟨hy, hz⟩, rfl⟩
      · rintro ⟨y, hy, rfl⟩
        exact ((inT y).mp hy).2
    have cT : Cl m (renE ns es) (imgL ns T) := fun x hx v hv e => by
      refine cW x ((eW x).mpr hx) v hv ?_
      rw [List.eq_nil_iff_forall_not_mem] at e ⊢
      intro o ho
      obtain ⟨h1, h2, h3⟩ := mem_oth.mp ho
      exact e o (mem_oth.mpr ⟨h1, (eW o).mp h2, h3⟩)
    obtain ⟨y, hy, rfl⟩ := mem_img.mp ((eW x).mp hx)
    exact mem_img.mpr ⟨y, g.max T (fun z hz => ((inT z).mp hz).1) ((ren_cl f h rT).mp cT) y hy, rfl⟩
theorem conn_ren {E F : List (Int × Int)} {φ : Int → Int} (e : ∀ a b, Adj E a b → Adj F (φ a) (φ b)) {a b : Int} (c : Conn E a b) : Conn F (φ a) (φ b) := by
  induction c with
  | refl => exact .refl _
  | step _ ad ih => exact .step ih (e _ _ ad)
theorem adj_ord {a b : Int} (f : IsFor m es) : Adj es a b ↔ ordP a b ∈ es := by
  constructor
  · rintro (h | h)
    · have r := f.rng _ h
      rw [ordP_eq (by omega)]
      exact h
    · have r := f.rng _ h
      rw [ordP_comm, ordP_eq (by omega)]
      exact h
  · intro h
    unfold ordP at h
    split at h
    · exact .inl h
    · exact .inr h
theorem adj_filt {ws : List Int} {a b : Int} : Adj (es.filter fun p => decide (p.1 ∈ ws) && decide (p.2 ∈ ws)) a b ↔ Adj es a b ∧ a ∈ ws ∧ b ∈ ws := by
  unfold Adj
  rw [List.mem_filter, List.mem_filter]
  simp only [Bool.and_eq_true, decide_eq_true_eq]
  constructor
  · rintro (⟨h1, h2, h3⟩ | ⟨h1, h2, h3⟩)
    · exact ⟨.inl h1, h2, h3⟩
    · exact ⟨.inr h1, h3, h2⟩
  · rintro ⟨h1 | h1, h2, h3⟩
    · exact .inl ⟨h1, h2, h3⟩
    · exact .inr ⟨h1, h3, h2⟩
theorem lab_ren (f : IsFor m es) (h : ns.Perm (rng m)) {ws : List Int} (rw' : ∀ x ∈ ws, 0 ≤ x ∧ x < (m : Int)) {lb : Int → Int} (lab : Lab es ws lb) :
    ∃ lb' : Int → Int, (∀ u, 0 ≤ u ∧ u < (m : Int) → lb' (nam ns u) = lb u) ∧ Lab (renE ns es) (imgL ns ws) lb' := by
  have ch : ∀ x : Int, ∃ y : Int, (0 ≤ x ∧ x < (m : Int)) → (0 ≤ y ∧ y < (m : Int)) ∧ nam ns y = x := fun x => by
    by_cases hx : 0 ≤ x ∧ x < (m : Int)
    · obtain ⟨y, hy⟩ := nam_onto h hx
      exact ⟨y, fun _ => hy⟩
    · exact ⟨0, fun z => absurd z hx⟩
  obtain ⟨bk', hb⟩ := Classical.axiomOfChoice ch
  have hbn : ∀ u, 0 ≤ u ∧ u < (m : Int) → bk' (nam ns u) = u := fun u hu => by
    obtain ⟨h1, h2⟩ := hb (nam ns u) (nam_in h hu)
    exact nam_inj h h1 hu h2
  refine ⟨fun x => lb (bk' x), fun u hu => by simp only [hbn u hu], ⟨fun p hp h1 h2 => ?_, fun a ha b hb' e => ?_⟩⟩
  · obtain ⟨x, hx, ex⟩ := mem_img.mp h1
    obtain ⟨y, hy, ey⟩ := mem_img.mp h2
    have ad : Adj (renE ns es) (nam ns x) (nam ns y) := by rw [ex, ey]; exact .inl hp
    have ad' : Adj es x y := (adj_ord f).mpr ((ren_edge f h (rw' x hx) (rw' y hy)).mp ((adj_ord (f.renamed h)).mp ad))
    show lb (bk' p.1) = lb (bk' p.2)
    rw [← ex, ← ey, hbn x (rw' x hx), hbn y (rw' y hy)]
    rcases ad' with z | z
    · exact lab.join _ z hx hy
    · exact (lab.join _ z hy hx).symm
  · obtain ⟨x, hx, rfl⟩ := mem_img.mp ha
    obtain ⟨y, hy, rfl⟩ := mem_img.mp hb'
    have e' : lb x = lb y := by
      have := e
      simp only [hbn x (rw' x hx), hbn y (rw' y hy)] at this
      exact this
    refine conn_ren (φ := nam ns) (fun a b ad => ?_) (lab.conn x hx y hy e')
    obtain ⟨h1, h2, h3⟩ := adj_filt.mp ad
    refine adj_filt.mpr ⟨?_, mem_img.mpr ⟨a, h2, rfl⟩, mem_img.mpr ⟨b, h3, rfl⟩⟩
    exact (adj_ord (f.renamed h)).mpr ((ren_edge f h (rw' a h2) (rw' b h3)).mpr ((adj_ord f).mp h1))
def renG (ns : List Int) (gs : List (Int × List Int)) : List (Int × List Int) := gs.map fun g => (g.1, imgL ns g.2)
theorem grp_ren (h : ns.Perm (rng m)) {ws : List Int} (rw' : ∀ x ∈ ws, 0 ≤ x ∧ x < (m : Int)) (aw : Asc ws) {lb lb' : Int → Int} {gs : List (Int × List Int)} (el : ∀ u, 0 ≤ u ∧ u < (m : Int) → lb' (nam ns u) = lb u) (gr : Grp lb ws gs) :
    Grp lb' (imgL ns ws) (renG ns gs) := by
  have e1 : (renG ns gs).map (·.1) = gs.map (·.1) := by
    unfold renG
    rw [List.map_map]
    rfl
  refine ⟨by rw [e1]; exact gr.nd, fun g hg => ?_, fun v hv => ?_⟩
  · obtain ⟨g, hg0, rfl⟩ := List.mem_map.mp hg
    obtain ⟨i1, i2⟩ := gr.is g hg0
    have key : ∀ x, x ∈ g.2 ↔ x ∈ ws ∧ lb x = g.1 := fun x => by rw [i1, List.mem_filter, decide_eq_true_eq]
    have rg : ∀ x ∈ g.2, 0 ≤ x ∧ x < (m : Int) := fun x hx => rw' x ((key x).mp hx).1
    have ag : Asc g.2 := by rw [i1]; exact aw.filter _
    refine ⟨asc_ext (img_asc h rg ag.nodup) ((img_asc h rw' aw.nodup).filter _) fun x => ?_, fun z => i2 ?_⟩
    · rw [List.mem_filter, decide_eq_true_eq, mem_img, mem_img]
      constructor
      · rintro ⟨y, hy, rfl⟩
        obtain ⟨k1, k2⟩ := (key y).mp hy
        exact ⟨⟨y, k1, rfl⟩, by rw [el y (rw' y k1)]; exact k2⟩
      · rintro ⟨⟨y, hy, rfl⟩, k2⟩
        rw [el y (rw' y hy)] at k2
        exact ⟨y, (key y).mpr ⟨hy, k2⟩, rfl⟩
    · have := congrArg List.length (show imgL ns g.2 = [] from z)
      rw [img_len] at this
      exact List.length_eq_zero_iff.mp this
  · obtain ⟨y, hy, rfl⟩ := mem_img.mp hv
    rw [e1, el y (rw' y hy)]
    exact gr.all y hy
/-- as many lamps in the renamed piece -/
theorem img_cnt (h : ns.Perm (rng m)) (hS : ∀ x ∈ S, 0 ≤ x ∧ x < (m : Int)) (nS : S.Nodup) {b : List Int} (hb : ∀ x ∈ b, 0 ≤ x ∧ x < (m : Int)) :
    ((imgL ns S).filter fun l => decide (l ∈ imgL ns b)).length = (S.filter fun l => decide (l ∈ b)).length := by
  have p : ((imgL ns S).filter fun l => decide (l ∈ imgL ns b)).Perm ((S.filter fun l => decide (l ∈ b)).map (nam ns)) := by
    refine (List.perm_ext_iff_of_nodup ((img_asc h hS nS).nodup.filter _) (img_nd h (fun x hx => hS x (List.mem_filter.mp hx).1) (nS.filter _))).mpr fun x => ?_
    rw [List.mem_filter, decide_eq_true_eq, List.mem_map]
    constructor
    · rintro ⟨h1, h2⟩
      obtain ⟨y, hy, rfl⟩ := mem_img.mp h1
      exact ⟨y, List.mem_filter.mpr ⟨hy, decide_eq_true ((img_in h hb (hS y hy)).mp h2)⟩, rfl⟩
    · rintro ⟨y, hy, rfl⟩
      obtain ⟨h1, h2⟩ := List.mem_filter.mp hy
      exact ⟨mem_img.mpr ⟨y, h1, rfl⟩, mem_img.mpr ⟨y, of_decide_eq_true h2, rfl⟩⟩
  rw [p.length_eq, List.length_map]
/-- the vertices by themselves -/
theorem img_self (hS : ∀ x ∈ S, 0 ≤ x ∧ x < (m : Int)) (aS : Asc S) : imgL (rng m) S = S := by
  have e : S.map (nam (rng m)) = S := by
    conv => rhs; rw [← List.map_id S]
    refine List.map_congr_left fun x hx => ?_
    have r := hS x hx
    unfold nam rng
    rw [List.getD_eq_getElem?_getD, List.getElem?_map, List.getElem?_range (by omega)]
    show ((x.toNat : Nat) : Int) = x
    omega
  unfold imgL
  rw [e, srtI_of_asc aS]
end
end TL
namespace TL
/-! ### two forests side by side: normal lamps, groups -/
section
variable {m n : Nat} {es fs E : List (Int × Int)} {A B ws1 ws2 : List Int}
def InR (m : Nat) (E : List (Int × Int)) : Prop := ∀ p ∈ E, (0 ≤ p.1 ∧ p.1 < (m : Int)) ∧ 0 ≤ p.2 ∧ p.2 < (m : Int)
theorem InR.ord (h : InR m E) {u v : Int} (e : ordP u v ∈ E) : (0 ≤ u ∧ u < (m : Int)) ∧ 0 ≤ v ∧ v < (m : Int) := by
  have r := h _ e
  unfold ordP at r
  split at r <;> simp only at r <;> omega
theorem InR.cut (h : InR m E) (v : Int) : InR m (cutE E v) := fun p hp => h p (List.mem_filter.mp hp).1
theorem InR.inE (h : InR m E) (b : List Int) : InR m (TL.inE E b) := fun p hp => h p (List.mem_filter.mp hp).1
theorem IsFor.inR (f : IsFor m es) : InR m es := fun p hp => by
  have := f.rng p hp
  omega
theorem near_more (h : InR m E) (v : Int) : nearL (m + n) E v = nearL m E v := by
  refine asc_ext (nearL_asc _ _ _) (nearL_asc _ _ _) fun o => ?_
  rw [mem_nearL, mem_nearL]
  exact ⟨fun ⟨_, e⟩ => ⟨(h.ord e).1, e⟩, fun ⟨r, e⟩ => ⟨by omega, e⟩⟩
theorem leafs_more (h : InR m E) : leafs (m + n) E = leafs m E := by
  refine asc_ext ((rng_asc _).filter _) ((rng_asc _).filter _) fun v => ?_
  rw [mem_leafs, mem_leafs, near_more h]
  constructor
  · rintro ⟨_, e⟩
    have hm : hdI (nearL m E v) ∈ nearL m E v := by
      rw [one_of e]
      exact List.mem_singleton.mpr rfl
    exact ⟨(h.ord (mem_nearL.mp hm).2).2, e⟩
  · rintro ⟨r, e⟩
    exact ⟨by omega, e⟩
theorem next_more (h : InR m E) : nextL (m + n) E = nextL m E := by
  unfold nextL
  rw [leafs_more h]
  congr 1
  funext v
  unfold goodLeaf
  rw [near_more h, near_more h, leafs_more h]
theorem normS_more : ∀ (k : Nat) {E : List (Int × Int)}, InR m E → normS (m + n) E k = normS m E k
  | 0, _, _ => rfl
  | k + 1, E, h => by
    unfold normS
    rw [next_more h]
    cases nextL m E with
    | none => rfl
    | some v =>
      simp only
      rw [near_more h, normS_more k (h.cut _)]
theorem norm_more (h : InR m E) (k : Nat) : normL (m + n) E k = normL m E k := by
  unfold normL
  rw [normS_more k h]
/-! shifted -/
theorem near_shf (h : InR n E) (v : Int) : nearL (m + n) (E.map (shf m)) (v + m) = (nearL n E v).map (· + (m : Int)) := by
  refine asc_ext (nearL_asc _ _ _) (List.pairwise_map.mpr ((nearL_asc n E v).imp fun h => by omega)) fun o => ?_
  rw [mem_nearL, ord_shf, List.mem_map, show v + (m : Int) - m = v by omega]
  constructor
  · rintro ⟨_, e⟩
    exact ⟨o - m, mem_nearL.mpr ⟨(h.ord e).1, e⟩, by omega⟩
  · rintro ⟨x, hx, rfl⟩
    obtain ⟨h1, h2⟩ := mem_nearL.mp hx
    refine ⟨by omega, ?_⟩
    rw [show x + (m : Int) - m = x by omega]
    exact h2
theorem leafs_shf (h : InR n E) : leafs (m + n) (E.map (shf m)) = (leafs n E).map (· + (m : Int)) := by
  refine asc_ext ((rng_asc _).filter _) (List.pairwise_map.mpr (List.Pairwise.imp (fun h => by omega) ((rng_asc n).filter _ : Asc (leafs n E)))) fun v => ?_
  rw [mem_leafs, List.mem_map]
  constructor
  · rintro ⟨_, e⟩
    have hm : hdI (nearL (m + n) (E.map (shf m)) v) ∈ nearL (m + n) (E.map (shf m)) v := by
      rw [one_of e]
      exact List.mem_singleton.mpr rfl
    have r := (h.ord (ord_shf.mp (mem_nearL.mp hm).2)).2
    refine ⟨v - m, mem_leafs.mpr ⟨r, ?_⟩, by omega⟩
    have e2 := near_shf (m := m) h (v - m)
    rw [show v - (m : Int) + m = v by omega] at e2
    rw [e2, List.length_map] at e
    exact e
  · rintro ⟨x, hx, rfl⟩
    obtain ⟨r, e⟩ := mem_leafs.mp hx
    refine ⟨by omega, ?_⟩
    rw [near_shf h, List.length_map]
    exact e
theorem hd_shf {l : List Int} (h : l.length = 1) : hdI (l.map (· + (m : Int))) = hdI l + m := by
  match l, h with
  | [a], _ => rfl
theorem good_shf (h : InR n E) {v : Int} (hv : v ∈ leafs n E) : goodLeaf (m + n) (E.map (shf m)) (v + m) = goodLeaf n E v := by
  unfold goodLeaf
  rw [near_shf h, hd_shf (mem_leafs.mp hv).2, near_shf h, leafs_shf h, List.filter_map, List.length_map]
  refine decide_eq_decide.mpr ?_
  have e : ((fun o => !decide (o ∈ (leafs n E).map (· + (m : Int)))) ∘ fun x => x + (m : Int)) = fun o => !decide (o ∈ leafs n E) := by
    funext o
    show (!decide (o + (m : Int) ∈ _)) = _
    congr 1
    refine decide_eq_decide.mpr ?_
    rw [List.mem_map]
    constructor
    · rintro ⟨x, hx, e⟩
      have : x = o := by omega
      rw [← this]
      exact hx
    · intro ho
      exact ⟨o, ho, rfl⟩
  rw [e]
theorem find_congr {α : Type} {p q : α → Bool} : ∀ {l : List α}, (∀ x ∈ l, p x = q x) → l.find? p = l.find? q
  | [], _ => rfl
  | a :: l, h => by
    rw [List.find?_cons, List.find?_cons, h a List.mem_cons_self, find_congr fun x hx => h x (List.mem_cons_of_mem _ hx)]
theorem next_shf (h : InR n E) : nextL (m + n) (E.map (shf m)) = (nextL n E).map (· + (m : Int)) := by
  unfold nextL
  rw [leafs_shf h, List.find?_map]
  congr 1
  exact find_congr fun x hx => good_shf h hx
theorem cut_shf (u : Int) : cutE (E.map (shf m)) (u + m) = (cutE E u).map (shf m) := by
  unfold cutE
  rw [List.filter_map]
  congr 1
  refine List.filter_congr fun p _ => ?_
  show (!decide (p.1 + (m : Int) = u + m) && !decide (p.2 + (m : Int) = u + m)) = _
  rw [decide_eq_decide.mpr (show p.1 + (m : Int) = u + m ↔ p.1 = u by omega), decide_eq_decide.mpr (show p.2 + (m : Int) = u + m ↔ p.2 = u by omega)]
theorem normS_shf : ∀ (k : Nat) {E : List (Int × Int)}, InR n E → normS (m + n) (E.map (shf m)) k = (normS n E k).map fun q => (q.1.map (shf m), q.2 + (m : Int))
  | 0, _, _ => rfl
  | k + 1, E, h => by
    unfold normS
    rw [next_shf h]
    cases hn : nextL n E with
    | none => rfl
    | some v =>
      have hv : v ∈ leafs n E := List.mem_of_find?_eq_some hn
      simp only [Option.map_some]
      rw [near_shf h, hd_shf (mem_leafs.mp hv).2, cut_shf, normS_shf k (h.cut _), List.map_cons]
theorem norm_shf (h : InR n E) (k : Nat) : normL (m + n) (E.map (shf m)) k = (normL n E k).map (· + (m : Int)) := by
  unfold normL
  rw [normS_shf k h, List.map_map, List.map_map]
  rfl
/-! within a piece -/
theorem in_left (g : IsFor n fs) {b : List Int} (hb : ∀ x ∈ b, x < (m : Int)) : inE (besE m es fs) b = inE es b := by
  unfold inE besE
  rw [List.filter_append]
  have e : (fs.map (shf m)).filter (fun p => decide (p.1 ∈ b) && decide (p.2 ∈ b)) = [] := by
    refine List.filter_eq_nil_iff.mpr fun p hp z => ?_
    obtain ⟨q, hq, rfl⟩ := List.mem_map.mp hp
    have h1 := of_decide_eq_true (Bool.and_eq_true_iff.mp z).1
    have := hb _ h1
    have := g.rng q hq
    unfold shf at *
    simp only at *
    omega
  rw [e, List.append_nil]
theorem mem_add {b : List Int} {o : Int} : o + (m : Int) ∈ b.map (· + (m : Int)) ↔ o ∈ b := by
  rw [List.mem_map]
  constructor
  · rintro ⟨x, hx, e⟩
    have : x = o := by omega
    rw [← this]
    exact hx
  · intro h
    exact ⟨o, h, rfl⟩
theorem in_right (f : IsFor m es) {b : List Int} (hb : ∀ x ∈ b, 0 ≤ x) : inE (besE m es fs) (b.map (· + (m : Int))) = (inE fs b).map (shf m) := by
  unfold inE besE
  rw [List.filter_append, List.filter_map]
  have e : es.filter (fun p => decide (p.1 ∈ b.map (· + (m : Int))) && decide (p.2 ∈ b.map (· + (m : Int)))) = [] := by
    refine List.filter_eq_nil_iff.mpr fun p hp z => ?_
    obtain ⟨x, hx, e⟩ := List.mem_map.mp (of_decide_eq_true (Bool.and_eq_true_iff.mp z).1)
    have := hb x hx
    have := f.rng p hp
    omega
  rw [e, List.nil_append]
  congr 1
  refine List.filter_congr fun p _ => ?_
  have h1 : decide (p.1 + (m : Int) ∈ b.map (· + (m : Int))) = decide (p.1 ∈ b) := decide_eq_decide.mpr mem_add
  have h2 : decide (p.2 + (m : Int) ∈ b.map (· + (m : Int))) = decide (p.2 ∈ b) := decide_eq_decide.mpr mem_add
  exact (congrArg (fun z => z && decide (p.2 + (m : Int) ∈ b.map (· + (m : Int)))) h1).trans (congrArg (fun z => decide (p.1 ∈ b) && z) h2)
theorem cnt_left {b : List Int} (hB : ∀ x ∈ B, 0 ≤ x) (hb : ∀ x ∈ b, x < (m : Int)) : cntS (bothL m A B) b = cntS A b := by
  unfold cntS bothL
  rw [List.filter_append]
  have e : (B.map (· + (m : Int))).filter (fun l => decide (l ∈ b)) = [] := by
    refine List.filter_eq_nil_iff.mpr fun p hp z => ?_
    obtain ⟨q, hq, rfl⟩ := List.mem_map.mp hp
    have := hb _ (of_decide_eq_true z)
    have := hB q hq
    omega
  rw [e, List.append_nil]
theorem cnt_right {b : List Int} (hA : ∀ x ∈ A, x < (m : Int)) (hb : ∀ x ∈ b, 0 ≤ x) : cntS (bothL m A B) (b.map (· + (m : Int))) = cntS B b := by
  unfold cntS bothL
  rw [List.filter_append, List.filter_map]
  have e : A.filter (fun l => decide (l ∈ b.map (· + (m : Int)))) = [] := by
    refine List.filter_eq_nil_iff.mpr fun p hp z => ?_
    obtain ⟨x, hx, e⟩ := List.mem_map.mp (of_decide_eq_true z)
    have := hA p hp
    have := hb x hx
    omega
  rw [e, List.nil_append, List.length_map]
  congr 1
  exact List.filter_congr fun p _ => decide_eq_decide.mpr mem_add
theorem normOf_left (f : IsFor m es) (g : IsFor n fs) {b : List Int} (hB : ∀ x ∈ B, 0 ≤ x) (hb : ∀ x ∈ b, x < (m : Int)) : normOf (m + n) (besE m es fs) (bothL m A B) b = normOf m es A b := by
  unfold normOf
  rw [in_left g hb, cnt_left hB hb, norm_more (f.inR.inE b)]
theorem normOf_right (f : IsFor m es) (g : IsFor n fs) {b : List Int} (hA : ∀ x ∈ A, x < (m : Int)) (hb : ∀ x ∈ b, 0 ≤ x) : normOf (m + n) (besE m es fs) (bothL m A B) (b.map (· + (m : Int))) = (normOf n fs B b).map (· + (m : Int)) := by
  unfold normOf
  rw [in_right f hb, cnt_right hA hb, norm_shf (g.inR.inE b)]
/-! groups -/
def labB (m : Nat) (l1 l2 : Int → Int) (v : Int) : Int := if v < (m : Int) then 2 * l1 v else 2 * l2 (v - m) + 1
def grpB (m : Nat) (gs1 gs2 : List (Int × List Int)) : List (Int × List Int) := gs1.map (fun g => (2 * g.1, g.2)) ++ gs2.map (fun g => (2 * g.1 + 1, g.2.map (· + (m : Int))))
theorem labB_left {l1 l2 : Int → Int} {v : Int} (h : v < (m : Int)) : labB m l1 l2 v = 2 * l1 v := if_pos h
theorem labB_right {l1 l2 : Int → Int} {v : Int} (h : 0 ≤ v) : labB m l1 l2 (v + m) = 2 * l2 v + 1 := by
  unfold labB
  rw [if_neg (by omega), show v + (m : Int) - m = v by omega]
theorem lab_both (f : IsFor m es) (g : IsFor n fs) (r1 : ∀ x ∈ ws1, 0 ≤ x ∧ x < (m : Int)) (r2 : ∀ x ∈ ws2, 0 ≤ x ∧ x < (n : Int)) {l1 l2 : Int → Int} (h1 : Lab es ws1 l1) (h2 : Lab fs ws2 l2) : Lab (besE m es fs) (bothL m ws1 ws2) (labB m l1 l2) := by
  refine ⟨fun p hp k1 k2 => ?_, fun a ha b hb e => ?_⟩
  · rcases List.mem_append.mp (show p ∈ es ++ fs.map (shf m) from hp) with hp | hp
    · have r := f.rng p hp
      rw [labB_left (by omega), labB_left (by omega), h1.join p hp ((both_left r2 (by omega)).mp k1) ((both_left r2 (by omega)).mp k2)]
    · obtain ⟨q, hq, rfl⟩ := List.mem_map.mp hp
      have r := g.rng q hq
      show labB m l1 l2 (q.1 + m) = labB m l1 l2 (q.2 + m)
      rw [labB_right (by omega), labB_right (by omega), h2.join q hq ((both_right r1 (by omega)).mp k1) ((both_right r1 (by omega)).mp k2)]
  · rcases mem_both.mp ha with ha' | ha' <;> rcases mem_both.mp hb with hb' | hb'
    · have ra := r1 a ha'
      have rb := r1 b hb'
      rw [labB_left ra.2, labB_left rb.2] at e
      refine (h1.conn a ha' b hb' (by omega)).mono fun p hp => ?_
      obtain ⟨k1, k2⟩ := List.mem_filter.mp hp
      obtain ⟨k3, k4⟩ := Bool.and_eq_true_iff.mp k2
      refine List.mem_filter.mpr ⟨List.mem_append_left _ k1, ?_⟩
      rw [decide_eq_true (mem_both.mpr (.inl (of_decide_eq_true k3))), decide_eq_true (mem_both.mpr (.inl (of_decide_eq_true k4)))]
      rfl
    · have ra := r1 a ha'
      have rb := r2 _ hb'
      have e2 := labB_right (m := m) (l1 := l1) (l2 := l2) rb.1
      rw [show b - (m : Int) + m = b by omega] at e2
      rw [labB_left ra.2, e2] at e
      omega
    · have ra := r2 _ ha'
      have rb := r1 b hb'
      have e2 := labB_right (m := m) (l1 := l1) (l2 := l2) ra.1
      rw [show a - (m : Int) + m = a by omega] at e2
      rw [labB_left rb.2, e2] at e
      omega
    · have ra := r2 _ ha'
      have rb := r2 _ hb'
      have e2 := labB_right (m := m) (l1 := l1) (l2 := l2) ra.1
      have e3 := labB_right (m := m) (l1 := l1) (l2 := l2) rb.1
      rw [show a - (m : Int) + m = a by omega] at e2
      rw [show b - (m : Int) + m = b by omega] at e3
      rw [e2, e3] at e
      have c := conn_ren (φ := (· + (m : Int))) (F := (besE m es fs).filter fun p => decide (p.1 ∈ bothL m ws1 ws2) && decide (p.2 ∈ bothL m ws1 ws2)) (fun x y ad => ?_) (h2.conn _ ha' _ hb' (by omega))
      · simp only [show a - (m : Int) + m = a by omega, show b - (m : Int) + m = b by omega] at c
        exact c
      · obtain ⟨k1, k2, k3⟩ := adj_filt.mp ad
        refine adj_filt.mpr ⟨?_, (both_right r1 (r2 x k2).1).mpr k2, (both_right r1 (r2 y k3).1).mpr k3⟩
        exact k1.imp (fun z => List.mem_append_right _ (List.mem_map.mpr ⟨_, z, rfl⟩)) (fun z => List.mem_append_right _ (List.mem_map.mpr ⟨_, z, rfl⟩))
theorem grp_both (r1 : ∀ x ∈ ws1, 0 ≤ x ∧ x < (m : Int)) (r2 : ∀ x ∈ ws2, 0 ≤ x ∧ x < (n : Int)) {l1 l2 : Int → Int} {gs1 gs2 : List (Int × List Int)} (h1 : Grp l1 ws1 gs1) (h2 : Grp l2 ws2 gs2) : Grp (labB m l1 l2) (bothL m ws1 ws2) (grpB m gs1 gs2) := by
  have ek : (grpB m gs1 gs2).map (·.1) = (gs1.map (·.1)).map (2 * ·) ++ (gs2.map (·.1)).map (fun k => 2 * k + 1) := by
    unfold grpB
    rw [List.map_append, List.map_map, List.map_map, List.map_map, List.map_map]
    rfl
  refine ⟨?_, fun g hg => ?_, fun v hv => ?_⟩
  · rw [ek]
    refine List.pairwise_append.mpr ⟨List.pairwise_map.mpr (h1.nd.imp fun h e => h (by omega)), List.pairwise_map.mpr (h2.nd.imp fun h e => h (by omega)), fun a ha b hb e => ?_⟩
    obtain ⟨x, _, rfl⟩ := List.mem_map.mp ha
    obtain ⟨y, _, rfl⟩ := List.mem_map.mp hb
    omega
  · rcases List.mem_append.mp (show g ∈ gs1.map _ ++ gs2.map _ from hg) with hg | hg
    · obtain ⟨q, hq, rfl⟩ := List.mem_map.mp hg
      obtain ⟨i1, i2⟩ := h1.is q hq
      refine ⟨?_, i2⟩
      show q.2 = (ws1 ++ ws2.map (· + (m : Int))).filter (fun v => decide (labB m l1 l2 v = 2 * q.1))
      rw [List.filter_append]
      have e1 : ws1.filter (fun v => decide (labB m l1 l2 v = 2 * q.1)) = ws1.filter fun v => decide (l1 v = q.1) := List.filter_congr fun v hv => by
        rw [labB_left (r1 v hv).2]
        exact decide_eq_decide.mpr (by omega)
      have e2 : (ws2.map (· + (m : Int))).filter (fun v => decide (labB m l1 l2 v = 2 * q.1)) = [] := List.filter_eq_nil_iff.mpr fun p hp z => by
        obtain ⟨x, hx, rfl⟩ := List.mem_map.mp hp
        have z := of_decide_eq_true z
        rw [labB_right (r2 x hx).1] at z
        omega
      rw [e1, e2, List.append_nil]
      exact i1
    · obtain ⟨q, hq, rfl⟩ := List.mem_map.mp hg
      obtain ⟨i1, i2⟩ := h2.is q hq
      refine ⟨?_, fun z => i2 (List.map_eq_nil_iff.mp z)⟩
      show q.2.map (· + (m : Int)) = (ws1 ++ ws2.map (· + (m : Int))).filter (fun v => decide (labB m l1 l2 v = 2 * q.1 + 1))
      rw [List.filter_append, List.filter_map]
      have e1 : ws1.filter (fun v => decide (labB m l1 l2 v = 2 * q.1 + 1)) = [] := List.filter_eq_nil_iff.mpr fun p hp z => by
        have z := of_decide_eq_true z
        rw [labB_left (r1 p hp).2] at z
        omega
      have e2 : ws2.filter ((fun v => decide (labB m l1 l2 v = 2 * q.1 + 1)) ∘ fun x => x + (m : Int)) = ws2.filter fun v => decide (l2 v = q.1) := List.filter_congr fun v hv => by
        show decide (labB m l1 l2 (v + (m : Int)) = _) = _
        rw [labB_right (r2 v hv).1]
        exact decide_eq_decide.mpr (by omega)
      rw [e1, e2, List.nil_append, ← i1]
  · rw [ek]
    rcases mem_both.mp hv with hv | hv
    · rw [labB_left (r1 v hv).2]
      exact List.mem_append_left _ (List.mem_map.mpr ⟨_, h1.all v hv, rfl⟩)
    · have e2 := labB_right (m := m) (l1 := l1) (l2 := l2) (r2 _ hv).1
      rw [show v - (m : Int) + m = v by omega] at e2
      rw [e2]
      exact List.mem_append_right _ (List.mem_map.mpr ⟨_, h2.all _ hv, rfl⟩)
/-- sorted apart -/
theorem srt_both {X Y : List Int} (hX : ∀ x ∈ X, x < (m : Int)) (hY : ∀ y ∈ Y, 0 ≤ y) : srtI (X ++ Y.map (· + (m : Int))) = bothL m (srtI X) (srtI Y) := by
  have p : (bothL m (srtI X) (srtI Y)).Perm (X ++ Y.map (· + (m : Int))) := (srtI_perm X).append ((srtI_perm Y).map _)
  have s : (bothL m (srtI X) (srtI Y)).Pairwise (· ≤ ·) := by
    refine List.pairwise_append.mpr ⟨srtI_le X, List.pairwise_map.mpr ((srtI_le Y).imp fun h => by omega), fun a ha b hb => ?_⟩
    obtain ⟨y, hy, rfl⟩ := List.mem_map.mp hb
    have := hX a (mem_srtI.mp ha)
    have := hY y (mem_srtI.mp hy)
    omega
  exact ((srtI_perm _).trans p.symm).eq_of_pairwise (fun x y _ _ h1 h2 => by omega) (srtI_le _) s
end
end TL
namespace TL
/-! ### there is a greatest lock, there are labels and groups -/
theorem gr_ex {m : Nat} {es : List (Int × Int)} {S : List Int} (asc : Asc S) : ∃ G, IsGr m es S G := by
  have mem : ∀ x, x ∈ S.filter (fun x => @decide (∃ T : List Int, (∀ y ∈ T, y ∈ S) ∧ Cl m es T ∧ x ∈ T) (Classical.propDecidable _)) ↔ ∃ T : List Int, (∀ y ∈ T, y ∈ S) ∧ Cl m es T ∧ x ∈ T := fun x => by
    rw [List.mem_filter]
    exact ⟨fun h => @of_decide_eq_true _ (Classical.propDecidable _) h.2, fun h => ⟨h.elim fun T hT => hT.1 x hT.2.2, @decide_eq_true _ (Classical.propDecidable _) h⟩⟩
  refine ⟨_, asc.filter _, fun x hx => (List.mem_filter.mp hx).1, Cl.of fun x hx v hv => ?_, fun T sub cl x hx => (mem x).mpr ⟨T, sub, cl, hx⟩⟩
  obtain ⟨T, sub, cl, hT⟩ := (mem x).mp hx
  obtain ⟨y, y1, y2, y3⟩ := cl.other hT hv
  exact ⟨y, (mem y).mpr ⟨T, sub, cl, y1⟩, y2, y3⟩
theorem lab_exR (vs : List Int) : ∀ es : List (Int × Int), ∃ f, Lab es.reverse vs f
  | [] => ⟨id, Lab.start vs⟩
  | p :: es => by
    obtain ⟨f, h⟩ := lab_exR vs es
    rw [List.reverse_cons]
    by_cases c : p.1 ∈ vs ∧ p.2 ∈ vs
    · exact ⟨_, h.merge c.1 c.2⟩
    · exact ⟨f, h.skip c⟩
theorem lab_ex (es : List (Int × Int)) (vs : List Int) : ∃ f, Lab es vs f := by
  have := lab_exR vs es.reverse
  rw [List.reverse_reverse] at this
  exact this
theorem grp_exR (f : Int → Int) : ∀ T : List Int, ∃ gs, Grp f T.reverse gs
  | [] => ⟨[], Grp.start f⟩
  | v :: T => by
    obtain ⟨gs, h⟩ := grp_exR f T
    rw [List.reverse_cons]
    exact ⟨_, h.add v⟩
theorem grp_ex (f : Int → Int) (T : List Int) : ∃ gs, Grp f T gs := by
  have := grp_exR f T.reverse
  rw [List.reverse_reverse] at this
  exact this
end TL
namespace TL
open PySem PySem.Spec PyProof.Rows L2
/-- a def of the text that may raise, by its name -/
structure OwnX (P : Program) (w : World) (K : PySem.W.Frag) (mg : Str → Option Value) (base : Heap)
    (x : Str) (k : Nat) (ps : List Str) (sp : Sp) : Prop where
  ex : ∃ (f : Addr) (fd : FuncData), FnOk P w K mg base (L2.CX P w) k f fd ps sp ∧ mg x = some (.ref f) ∧
    PySem.W.keepIn K (.ref f) = true ∧ Binds K fd ps []
section
variable {X : Cx} {k : Nat} {ps : List Str} {sp : Sp} {x : Str} {p pos : Pos} {e : Expr} {es : List Expr} {t : TA} {W : WX}
theorem pe_ownX (O : OwnX X.prog X.w X.K X.mg X.base x k ps sp) (hr : Room k X.A) (tk : Takes X W) (hg : Gl X x) (ha : PA X (e :: es) t)
    (hdb : (x == ("__debug__" : Str)) = false := by decide)
    (he : starEach (e :: es) X.env = (false, eval e X.env) :: starEach es X.env := by rfl)
    (hpl : (backTo pos (starEach es X.env)).any (·.1) = false := by rfl) :
    PE X (.Call (.Name x p) (e :: es) [] pos) (tCallS sp (WE W) t) := by
  obtain ⟨f, fd, F, hm, hk, hb⟩ := O.ex
  exact pe_callS F hr hg hm hk hb (fun σ => passAt tk σ) ha hdb he hpl
end
/-! ### an error class of the text with one field -/
/-- self.f = value -/
def spInit (C : Addr) (f : Str) : Sp := fun vs H Q _ => ∃ (a : Addr) (y : V), vs = [.ref a, y] ∧ H a = some (exo a C none) ∧
  ∀ dx, H dx = none → dx ≠ a → Q .non (upd (upd H dx (exd dx [(f, y)])) a (exo a C (some dx)))
/-- what is said of such a class -/
structure ErrC (P : Program) (w : World) (K : PySem.W.Frag) (mg : Str → Option Value) (base : Heap) (x f : Str) (C : Addr) : Prop where
  oex : OexC K C
  xf : XfC K C
  exc : ExcC K C
  cls : (PySem.W.clsIn K C).isSome = true
  nof : PySem.W.findIn K (.ref C) f = some none
  glo : mg x = some (.ref C)
  ini : ∃ (fI : Addr) (fd : FuncData) (ps : List Str), PySem.W.findIn K (.ref C) "__init__" = some (some (.ref fI)) ∧ PySem.W.typeIn K (.ref fI) = some (.type "function") ∧
    FnOk P w K mg base CX0 1 fI fd ps (spInit C f) ∧ Binds K fd ps []
section
variable {X : Cx} {x f : Str} {C : Addr} {e : Expr} {p pos pos' : Pos} {ta : TA} {W : WX}
/-- raise x(e) -/
theorem ps_err (T : ErrC X.prog X.w X.K X.mg X.base x f C) (hr : Room 2 X.A) (tk : Takes X W) (hg : Gl X x) (ha : PA X [e] ta) (hc : X.calm = true := by rfl)
    (hdb : (x == ("__debug__" : Str)) = false := by decide)
    (he : starEach [e] X.env = (false, eval e X.env) :: starEach [] X.env := by rfl)
    (hpl : (backTo pos (starEach [] X.env)).any (·.1) = false := by rfl) :
    PS X (.Raise (some (.Call (.Name x p) [e] [] pos)) none pos') (fun _ σ H => tMkO C (spInit C f) [] ta σ H fun cls d H' => W cls d σ H') := by
  obtain ⟨fI, fd, ps, iC, tI, F, hb⟩ := T.ini
  exact ps_raise hc tk (pmk_oex (dvs := []) (ds := []) T.oex iC tI F hr hb .nil pass0 hg T.glo ha hdb he hpl)
/-- the reading of it -/
theorem errI {y : V} {H1 : Hp} {Q : XK} (q : ∀ (H' : Hp) (d : Addr), Same H1 H' → H' d = some (.xd [(f, y)]) → Q (.ref C) (some d) H') :
    [y].length ≤ 1000 ∧ ∀ a, H1 a = none → spInit C f (.ref a :: ([y] ++ [])) (upd H1 a (exo a C none))
      (fun v H2 => v = .non ∧ ∃ (d : Addr) (fs : List (Str × V)), H2 a = some (exo a C (some d)) ∧ H2 d = some (exd d fs) ∧ H1 d = none ∧ Q (.ref C) (some d) (upd (del H2 a) d (.xd fs))) (fun _ _ _ => False) := by
  refine ⟨by show 1 ≤ 1000; decide, fun a na => ⟨a, y, rfl, upd_same, fun dx nd ne => ?_⟩⟩
  rw [upd_ne ne] at nd
  refine ⟨rfl, dx, [(f, y)], upd_same, (upd_ne ne).trans upd_same, nd, q _ _ (fun b o e => ?_) upd_same⟩
  have hb : b ≠ a := fun z => by rw [z, na] at e; cases e
  have hd : b ≠ dx := fun z => by rw [z, nd] at e; cases e
  rw [upd_ne hd, del_ne hb, upd_ne hb, upd_ne hd, upd_ne hb]
  exact e
end
/-! ### isinstance of the error that a suite holds -/
def rIsX (K : PySem.W.Frag) (cls : Value) (d : Option Addr) (D a : Addr) : List V → Hp → VK → Prop := fun xs H Q => ∃ (c : V) (b : Bool), xs = [.ref a, c] ∧ cls = .ref D ∧ (∃ (dd : Addr) (fs : List (Str × V)), d = some dd ∧ H dd = some (.xd fs)) ∧
  ((∃ cv, (∀ u, RelV c u → u = cv) ∧ PySem.W.kitOne K (.ref D) cv = some b) ∨ ∃ (tp : Addr) (cs : List Addr), c = .ref tp ∧ H tp = some (.tup (cs.map V.ref)) ∧ PySem.W.kitAny K (.ref D) (cs.map Value.ref) = some b) ∧ Q (.bl b) H
theorem vals_refs : ∀ {cs : List Addr} {its : List Value}, Vals (cs.map V.ref) its → its = cs.map Value.ref
  | [], _, h => by cases h; rfl
  | c :: cs, _, h => by
    cases h with
    | cons r1 r2 =>
      cases r1
      rw [vals_refs r2]
      rfl
theorem isX {X : Cx} {a D : Addr} {oe : Obj} {cls : Value} {d : Option Addr} {pn : List (Addr × Obj)} (C : ExcC X.K D) (hcl : (PySem.W.clsIn X.K D).isSome = true) (hz : Zc cls d oe) (hf : ∃ vs, oe.data = .fields vs) :
    CallR (X.suite a ((a, oe) :: pn)) (.builtin "isinstance") (rIsX X.K cls d D a) := by
  intro pins s σ H xs us Q I r h
  obtain ⟨c, b, rfl, ec, ⟨dd, fs, ed, ex⟩, hk, q⟩ := h
  subst ec ed
  cases r with
  | cons rx rr =>
    cases rr with
    | cons rt rr =>
      cases rr
      cases rx
      obtain ⟨hget, _⟩ := I.pin (a, oe) (List.mem_append.mpr (.inl List.mem_cons_self))
      obtain ⟨vs, hv⟩ := hf
      have hx : ObjOk X.prog X.w H s.heap dd (.xd fs) := I.hok dd _ ex
      obtain ⟨mA, hns, hr⟩ := hx
      obtain ⟨od, ho, hl⟩ := lookIn_ns hns
      have J : PySem.W.InstAt s.heap a oe D (some od) := ⟨hget, hz.1, by unfold PySem.W.notCls; rw [hv] <;> rfl, by rw [hz.2]; exact ho⟩
      have Z := PySem.W.kitx_exc (x := a) (ox := oe) (od := some od) hcl C.hg C.hk C.hs C.ha C.hn C.ht C.hm
      rcases hk with ⟨cv, hcv, e⟩ | ⟨tp, cs, e1, e2, e⟩
      · have ec := hcv _ rt
        subst ec
        exact PySem.W.kia_one Z I.kIn J e (fun z => nomatch z) fun tk => ⟨.bl b, H, I.kept (t' := tk) fun _ _ z => z, rfl, q⟩
      · subst e1
        cases rt
        obtain ⟨_, its, r, o, h1, h2, n, h3⟩ := (show ObjOk X.prog X.w H s.heap tp (.tup (cs.map V.ref)) from I.hok tp _ e2)
        have ei : its = cs.map Value.ref := vals_refs r
        subst ei
        obtain ⟨oc, od2, oda, osl⟩ := o
        dsimp only at h2 h3
        subst h2 h3
        exact PySem.W.kia_tup Z I.kIn J h1 e (fun z => nomatch z) fun tk => ⟨.bl b, H, I.kept (t' := tk) fun _ _ z => z, rfl, q⟩
/-! ### in short, within a suite -/
theorem isXK (K : PySem.W.Frag) {X : Cx} {P : Program} {w : World} {mg : Str → Option Value} {base : Heap} {x f : Str} {a D : Addr} {oe : Obj} {cls : Value} {d : Option Addr} {pn : List (Addr × Obj)} (T : ErrC P w K mg base x f D) (hz : Zc cls d oe) (hf : ∃ vs, oe.data = .fields vs) (h : X.K = K := by rfl) :
    CallR (X.suite a ((a, oe) :: pn)) (.builtin "isinstance") (rIsX K cls d D a) := by
  subst h
  exact isX T.exc T.cls hz hf
theorem xfK (K : PySem.W.Frag) {X : Cx} {P : Program} {w : World} {mg : Str → Option Value} {base : Heap} {x n : Str} {a C : Addr} {oe : Obj} {cls : Value} {d : Option Addr} {pn : List (Addr × Obj)} {e : Expr} {te : TE} {pos : Pos} (T : ErrC P w K mg base x n C)
    (hz : Zc cls d oe) (hf : ∃ vs, oe.data = .fields vs) (he : PE (X.suite a ((a, oe) :: pn)) e te) (h : X.K = K := by rfl) (hb : attributeBase e n X.env (eval e X.env) = eval e X.env := by rfl) :
    PE (X.suite a ((a, oe) :: pn)) (.Attribute e n pos) (tXf a cls d C n te) := by
  subst h
  exact pe_xf T.xf T.nof hz hf he hb
/-! ### what the written part says of classes -/
section
variable {K : PySem.W.Frag} {C D : Addr}
theorem cls_of (h : PySem.W.hasDictIn K C = true) : (PySem.W.clsIn K C).isSome = true := by
  obtain ⟨cd, hc, _⟩ := PySem.W.any_some h
  rw [hc]
  rfl
theorem kit_own {b : Bool} (hd : PySem.W.hasDictIn K D = true) (ht : PySem.W.typeIn K (.ref D) = some (.type "type")) (hs : PySem.W.subIn K (.ref C) (.ref D) = some b) (self : PySem.W.subIn K (.ref C) (.ref C) = some true) : PySem.W.kitOne K (.ref C) (.ref D) = some b := by
  unfold PySem.W.kitOne
  by_cases e : (Value.ref C == Value.ref D) = true
  · rw [if_pos e]
    have e2 := beq_iff_eq.mp e
    rw [← e2, self] at hs
    exact hs
  · rw [if_neg e]
    unfold PySem.W.kitCls
    have e2 : ((PySem.W.clsIn K D).isSome && PySem.W.typeIn K (.ref D) == some (.type "type")) = true := by
      rw [cls_of hd, ht]
      rfl
    show (if ((PySem.W.clsIn K D).isSome && PySem.W.typeIn K (.ref D) == some (.type "type")) = true then _ else _) = _
    rw [if_pos e2]
    exact hs
theorem kit_ve {T : String} (hm : PySem.W.kitMeta T = true) (hs : PySem.W.subIn K (.ref C) (.type T) = some true) : PySem.W.kitOne K (.ref C) (.type T) = some true := by
  unfold PySem.W.kitOne
  rw [if_neg (by intro z; cases beq_iff_eq.mp z)]
  unfold PySem.W.kitCls
  show (if PySem.W.kitMeta T = true then _ else _) = _
  rw [if_pos hm]
  exact hs
theorem exm_own {b : Bool} (h1 : PySem.W.subIn K (.ref D) (.type "BaseException") = some true) (hd : PySem.W.hasDictIn K D = true) (ht : PySem.W.typeIn K (.ref D) = some (.type "type")) (h4 : PySem.W.subIn K (.ref C) (.ref D) = some b) : PySem.W.exmOne K (.ref C) (.ref D) = some b := PySem.W.exm_ref h1 hd ht h4
theorem kitAny_no : ∀ {cs : List Addr}, (∀ c ∈ cs, PySem.W.kitOne K (.ref C) (.ref c) = some false) → PySem.W.kitAny K (.ref C) (cs.map Value.ref) = some false
  | [], _ => rfl
  | c :: cs, h => by
    show (match PySem.W.kitOne K (.ref C) (.ref c) with | some true => some true | some false => PySem.W.kitAny K (.ref C) (cs.map Value.ref) | none => none) = _
    rw [h c List.mem_cons_self]
    exact kitAny_no fun c hc => h c (List.mem_cons_of_mem _ hc)
end
/-- the own __init__ of such a class -/
structure IniC (K : PySem.W.Frag) (C : Addr) (f : Str) : Prop where
  oex : OexC K C
  nof : PySem.W.findIn K (.ref C) f = some none
end TL
namespace TL
open PySem PySem.Spec PyProof.Rows L2
/-! ### what is due -/
def rNeE (K : PySem.W.Frag) : R2 := fun x y H Q => ∃ (a b : Addr) (xs : List V), x = .ref a ∧ y = .ref b ∧ SqL K H a xs ∧ SqL K H b [] ∧ Q (.bl (!xs.isEmpty)) H
theorem op_neE {X : Cx} (hu : X.A.units + 64 < cLine) : OpR X (compareOp .NotEq) (rNeE X.K) := by
  intro pins s σ H x y v u Q I rx ry h
  obtain ⟨a, b, xs, rfl, rfl, ha, hb, q⟩ := h
  cases rx
  cases ry
  obtain ⟨its, rv, ⟨o, n, ho, hc, _, hd⟩, _⟩ := I.list ha
  obtain ⟨its2, rv2, ⟨o2, n2, ho2, hc2, _, hd2⟩, _⟩ := I.list hb
  cases rv2
  have hl : s.heap.IsList a its.toArray := ⟨_, ho, hc, _, hd⟩
  have hl2 : s.heap.IsList b #[] := ⟨_, ho2, hc2, _, hd2⟩
  cases xs with
  | nil =>
    cases rv
    exact (SeqAt.RcNeAt.lists hl hl2 rfl (by omega) (fun j j1 _ => absurd j1 (Nat.not_lt_zero _)) (e := fun _ => true)) X.prog X.w X.xe _ ⟨.bl _, H, I, rfl, q⟩
  | cons x xs =>
    cases rv with
    | cons r1 r2 => exact (SeqAt.RcNeAt.lists_lengths hl hl2 (by simp) (by omega)) X.prog X.w X.xe _ ⟨.bl _, H, I, rfl, q⟩
theorem neEK (K : PySem.W.Frag) {X : Cx} (hu : X.A.units + 64 < cLine) (h : X.K = K := by rfl) : OpR X (compareOp .NotEq) (rNeE K) := h ▸ op_neE hu
end TL
namespace TL
open PySem PySem.Spec PyProof.Rows L2
/-! ### sorted(a tuple of pairs of ints) -/
@[irreducible] def rSortTP (K : PySem.W.Frag) : List V → Hp → VK → Prop := fun vs H Q => ∃ (ps : List (Int × Int)) (a : Addr) (xs : List V), vs = [.ref a] ∧ SqT K H a xs ∧ DpAll K H xs (ps.map prD) ∧ ps.length ≤ 1000 ∧
  ∀ p ys, H p = none → DpAll K H ys ((srtP ps).map prD) → Q (.ref p) (upd H p (.lst ys))
section
variable {X : Cx}
theorem pair_reads {pins : List (Addr × Obj)} {σ : L2.St} {H : Hp} {s : Shared} (I : Inv X pins σ H s) {h' : Heap} (kp : ∀ b o, s.heap.get? b = some o → h'.get? b = some o) (c : Addr) :
    ∀ {xs : List V} {us : List Value} {ps : List (Int × Int)}, Vals xs us → DpAll X.K H xs (ps.map prD) → PySem.W.EachIs (fun (u : Value) (b : Int × Int) => ∃ as, Reads h' u (prD b) as ∧ c ∉ as) us ps
  | _, _, [], .nil, _ => .nil
  | _, _, _ :: _, .nil, h => nomatch h
  | _, _, [], .cons _ _, h => nomatch h
  | _, _, b :: bs, .cons r t, .cons h a => by
    refine .cons ⟨[], ?_, fun z => nomatch z⟩ (pair_reads I kp c t a)
    obtain ⟨q, rfl, hq⟩ := Dp.prI h
    cases r
    obtain ⟨its, rv, ⟨oq, hoq, hcq, n, hdq⟩, _⟩ := I.tuple (xs := [b.1, b.2].map V.int) hq
    exact .tuple (kp _ _ hoq) hcq hdq (reads_ints (ns := [b.1, b.2]) (Vals.ints rv))
theorem sorted_TP (hu : X.A.units + 64 < cLine) : CallR X (.builtin "sorted") (rSortTP X.K) := by
  intro pins s σ H vs us Q I rr h
  unfold rSortTP at h
  obtain ⟨ps, a, xs, ev, hq, hA, lp, q⟩ := h
  subst ev
  rw [Vals.ref1 rr]
  obtain ⟨its, rv, ⟨oq, hoq, hcq, n, hdq⟩, hz⟩ := I.tuple hq
  have lx : xs.length = ps.length := by rw [DpAll.length hA, List.length_map]
  have li := rv.length
  refine Calls.call_function_entry kind_sorted plain_sorted entry_sorted (args_sorted1 _) ?_
  unfold Builtin.«sorted»
  refine wpAny_bind (m := checkCount "sorted" 1 1 _) (wpAny_pure ?_)
  refine wpAny_bind (wpAny_collect_seq a (.inr rfl) hoq hcq hdq (fun G kp => ?_) (by rw [List.size_toArray]; omega))
  have J : Inv X pins σ H { s with heap := G } := I.kept (t' := s.toks) kp
  refine wpAny_bind (wpAny_newList ?_ (by show its.length ≤ _; omega))
  have hoL : (G.push (seqObj "list" its.toArray 0)).get? G.objs.size = some (seqObj "list" its.toArray 0) := Heap.get?_push_size _ rfl
  have k1 : ∀ b o, s.heap.get? b = some o → (G.push (seqObj "list" its.toArray 0)).get? b = some o := fun b o e => Heap.get?_push_of_some _ (kp b o e)
  refine wpAny_bind (wpAny_holding (PySem.W.list_sort_data (s := { s with heap := G.push (seqObj "list" its.toArray 0) }) hoL (each_of prD rv hA) (pair_reads I k1 _ rv hA) ?_ ?_ (Nat.le_of_lt (small1000 lp)) (fun b _ => ?_) fun out ho2 eo => ?_))
  · intro d hd e he
    obtain ⟨x, _, rfl⟩ := List.mem_map.mp hd
    obtain ⟨y, _, rfl⟩ := List.mem_map.mp he
    simp [prD, PySem.W.alike, PySem.W.alikeAll]
  · refine .inl fun d hd => ?_
    obtain ⟨x, hx, rfl⟩ := List.mem_map.mp hd
    exact ⟨_, _, rfl⟩
  · have := dep_pr b
    show X.A.in1.units + 1 + _ < _
    have : X.A.in1.units ≤ X.A.units + 1 := Nat.le_refl _
    omega
  obtain ⟨ys, ry, dy⟩ := of_each prD eo
  obtain ⟨c, hc2⟩ := sortedHeap_at (vs := its) (out := out.toArray) hoL
  have hk : ∀ b o, G.get? b = some o → (sortedHeap (G.push (seqObj "list" its.toArray 0)) G.objs.size its out.toArray).get? b = some o := fun b u e => by
    have hlt := Heap.lt_size e
    rw [sortedHeap_old (Nat.ne_of_lt hlt) (by rw [size_push']; exact Nat.lt_succ_of_lt hlt)]
    exact Heap.get?_push_of_some _ e
  have hn : H G.objs.size = none := J.hok.fresh (Nat.le_refl _)
  have hlen : ys.length ≤ sizeLine := by rw [ry.length, ho2]; exact Nat.le_of_lt (small1000 lp)
  have J2 := J.laid (t' := s.toks) (o := .lst ys) hk (Nat.le_refl _) ⟨hlen, out, c, ry, hc2⟩
  rw [le_pr_fun] at dy
  exact wpAny_pure ⟨_, rfl, ⟨.ref G.objs.size, _, J2, rfl, q _ ys hn dy⟩⟩
theorem sortTPK (K : PySem.W.Frag) (hu : X.A.units + 64 < cLine) (h : X.K = K := by rfl) : CallR X (.builtin "sorted") (rSortTP K) := h ▸ sorted_TP hu
end
end TL
namespace TL
open PySem PySem.Spec PyProof.Rows L2
/-! ### sorted(a tuple of ints) -/
@[irreducible] def rSortTI (K : PySem.W.Frag) : List V → Hp → VK → Prop := fun vs H Q => ∃ (ns : List Int) (a : Addr), vs = [.ref a] ∧ SqT K H a (ns.map V.int) ∧ ns.length ≤ 1000 ∧
  ∀ p, H p = none → Q (.ref p) (upd H p (.lst ((srtI ns).map V.int)))
section
variable {X : Cx}
theorem ints_reads {h' : Heap} (c : Addr) : ∀ {us : List Value} {ns : List Int}, IntsAre us ns → PySem.W.EachIs (fun (u : Value) (b : Int) => ∃ as, Reads h' u (PyData.int b) as ∧ c ∉ as) us ns
  | [], [], _ => .nil
  | v :: vs, n :: ns, a => by
    cases a with
    | cons _ t a2 => exact .cons ⟨[], .int n t, fun z => nomatch z⟩ (ints_reads c a2)
theorem sorted_TI (hu : X.A.units + 64 < cLine) : CallR X (.builtin "sorted") (rSortTI X.K) := by
  intro pins s σ H vs us Q I rr h
  unfold rSortTI at h
  obtain ⟨ns, a, ev, hq, lp, q⟩ := h
  subst ev
  rw [Vals.ref1 rr]
  obtain ⟨its, rv, ⟨oq, hoq, hcq, n, hdq⟩, hz⟩ := I.tuple hq
  have li := rv.length
  rw [List.length_map] at li
  refine Calls.call_function_entry kind_sorted plain_sorted entry_sorted (args_sorted1 _) ?_
  unfold Builtin.«sorted»
  refine wpAny_bind (m := checkCount "sorted" 1 1 _) (wpAny_pure ?_)
  refine wpAny_bind (wpAny_collect_seq a (.inr rfl) hoq hcq hdq (fun G kp => ?_) (by rw [List.size_toArray]; exact Nat.le_of_lt (small1000 (by omega))))
  have J : Inv X pins σ H { s with heap := G } := I.kept (t' := s.toks) kp
  refine wpAny_bind (wpAny_newList ?_ (by show its.length ≤ _; exact Nat.le_of_lt (small1000 (by omega))))
  have hoL : (G.push (seqObj "list" its.toArray 0)).get? G.objs.size = some (seqObj "list" its.toArray 0) := Heap.get?_push_size _ rfl
  refine wpAny_bind (wpAny_holding (PySem.W.list_sort_data (s := { s with heap := G.push (seqObj "list" its.toArray 0) }) hoL (each_of (K := X.K) (H := H) PyData.int rv (DpAll.of_ints ns)) (ints_reads _ (Vals.ints rv)) ?_ ?_ (Nat.le_of_lt (small1000 lp)) (fun b _ => ?_) fun out ho2 eo => ?_))
  · intro d hd e he
    obtain ⟨x, _, rfl⟩ := List.mem_map.mp hd
    obtain ⟨y, _, rfl⟩ := List.mem_map.mp he
    simp [PySem.W.alike]
  · refine .inr fun d hd => ?_
    obtain ⟨x, hx, rfl⟩ := List.mem_map.mp hd
    exact ⟨fun z => (nomatch z), fun _ z => (nomatch z)⟩
  · show X.A.in1.units + 1 + _ < _
    have : X.A.in1.units ≤ X.A.units + 1 := Nat.le_refl _
    simp only [PyData.depth]
    omega
  obtain ⟨ys, ry, dy⟩ := of_each PyData.int eo
  rw [le_int_fun] at dy
  have ey := DpAll.ints dy
  subst ey
  obtain ⟨c, hc2⟩ := sortedHeap_at (vs := its) (out := out.toArray) hoL
  have hk : ∀ b o, G.get? b = some o → (sortedHeap (G.push (seqObj "list" its.toArray 0)) G.objs.size its out.toArray).get? b = some o := fun b u e => by
    have hlt := Heap.lt_size e
    rw [sortedHeap_old (Nat.ne_of_lt hlt) (by rw [size_push']; exact Nat.lt_succ_of_lt hlt)]
    exact Heap.get?_push_of_some _ e
  have hn : H G.objs.size = none := J.hok.fresh (Nat.le_refl _)
  have hlen : ((srtI ns).map V.int).length ≤ sizeLine := by rw [List.length_map, srtI_length]; exact Nat.le_of_lt (small1000 lp)
  have J2 := J.laid (t' := s.toks) (o := .lst ((srtI ns).map V.int)) hk (Nat.le_refl _) ⟨hlen, out, c, ry, hc2⟩
  exact wpAny_pure ⟨_, rfl, ⟨.ref G.objs.size, _, J2, rfl, q _ hn⟩⟩
theorem sortTIK (K : PySem.W.Frag) (hu : X.A.units + 64 < cLine) (h : X.K = K := by rfl) : CallR X (.builtin "sorted") (rSortTI K) := h ▸ sorted_TI hu
end
theorem sortTupI {K : PySem.W.Frag} {H : Hp} {x : V} {ns : List Int} {Q : VK} (hx : Dp K H x (intsD ns)) (hl : ns.length ≤ 1000) (q : ∀ p, H p = none → Q (.ref p) (upd H p (.lst ((srtI ns).map V.int)))) : rSortTI K [x] H Q := by
  obtain ⟨a, rfl, h1⟩ := Dp.intsI hx
  unfold rSortTI
  exact ⟨ns, a, rfl, h1, hl, q⟩
/-! ### one lamp more or less, one vertex more -/
theorem IsGr.less {m : Nat} {es : List (Int × Int)} {S S' G G' : List Int} {x : Int} (h : IsGr m es S G) (h' : IsGr m es S' G') (e : ∀ z, z ∈ S' ↔ z ∈ S ∧ z ≠ x) : (x ∉ G → G' = G) ∧ ∀ z ∈ G', z ∈ G ∧ z ≠ x := by
  have sub : ∀ z ∈ G', z ∈ G ∧ z ≠ x := fun z hz => ⟨h'.mono h (fun y hy => ((e y).mp hy).1) z hz, ((e z).mp (h'.sub z hz)).2⟩
  refine ⟨fun nx => asc_ext h'.asc h.asc fun z => ⟨fun hz => (sub z hz).1, fun hz => ?_⟩, sub⟩
  exact h'.max G (fun y hy => (e y).mpr ⟨h.sub y hy, fun z => nx (z ▸ hy)⟩) h.cl z hz
theorem IsGr.alone {m : Nat} {es : List (Int × Int)} {S G : List Int} {x : Int} (h : IsGr m es S G) (hx : x ∈ S) (n : nearL m es x = []) : x ∈ G := by
  refine h.max [x] (fun y hy => by rw [List.mem_singleton.mp hy]; exact hx) (fun y hy v hv => ?_) x (List.mem_singleton.mpr rfl)
  rw [List.mem_singleton.mp hy, n] at hv
  cases hv
theorem IsGr.grown {m : Nat} {es : List (Int × Int)} {S G : List Int} {l : Int} (f : IsFor m es) (hl : 0 ≤ l ∧ l < m) (h : IsGr (m + 1) (srtP (es ++ [(l, (m : Int))])) S G) : l ∉ G := by
  intro z
  have f' := f.attach hl
  have ed : ordP l (m : Int) ∈ srtP (es ++ [(l, (m : Int))]) := by
    rw [mem_srtP, ordP_eq (by omega)]
    exact List.mem_append_right _ (List.mem_singleton.mpr rfl)
  have hw : (m : Int) ∈ nearL (m + 1) (srtP (es ++ [(l, (m : Int))])) l := mem_nearL.mpr ⟨by omega, by rw [ordP_comm]; exact ed⟩
  obtain ⟨y, y1, y2, y3⟩ := h.cl.other z hw
  rcases f'.mem_ord.mp (mem_nearL.mp y3).2 with q | q
  · rcases List.mem_append.mp (mem_srtP.mp q) with q | q
    · have := f.rng _ q
      simp only at this
      omega
    · have := List.mem_singleton.mp q
      injection this with e1 e2
      exact y2 e1
  · rcases List.mem_append.mp (mem_srtP.mp q) with q | q
    · have := f.rng _ q
      simp only at this
      omega
    · have := List.mem_singleton.mp q
      injection this with e1 e2
      omega
end TL
namespace TL
open PySem PySem.Spec PyProof.Rows L2
/-! ### min(a list of ints) -/
def rMinI (K : PySem.W.Frag) : List V → Hp → VK → Prop := fun vs H Q => ∃ (a : Addr) (n : Int) (ns : List Int), vs = [.ref a] ∧ SqL K H a ((n :: ns).map V.int) ∧ Q (.int (ns.foldl min n)) H
theorem foldl_min {n : Int} : ∀ {ns : List Int}, (∀ k ∈ ns, n ≤ k) → ns.foldl min n = n
  | [], _ => rfl
  | k :: ns, h => by
    rw [List.foldl_cons, show min n k = n from Int.min_eq_left (h k List.mem_cons_self)]
    exact foldl_min fun j hj => h j (List.mem_cons_of_mem _ hj)
section
variable {X : Cx}
theorem depth_ints : ∀ ns : List Int, PyData.depthAll (ns.map .int) = 0
  | [] => by simp [PyData.depthAll]
  | n :: ns => by simp [PyData.depthAll, PyData.depth, depth_ints ns]
theorem call_minI (hc : X.calm = true) (hu : X.A.units + 64 < cLine) : CallR X (.builtin "min") (rMinI X.K) := by
  intro pins s σ H vs us Q I r h
  obtain ⟨a, n, ns, rfl, hs, q⟩ := h
  rw [Vals.ref1 r]
  obtain ⟨its, rv, hl, _⟩ := I.list hs
  obtain ⟨as, hr⟩ := Dp.readsAll I _ _ _ (DpAll.of_ints (n :: ns)) rv
  refine PySem.W.min_list_data (x := .int n) (xs := ns.map .int) (as := as) (I.ok.hd hc) hl.isList hr ⟨fun x hx y hy => ?_, fun x hx => ?_⟩ ?_ (fun i v h' tk bs hv rd hk => ?_)
  · have hx : x ∈ (n :: ns).map PyData.int := hx
    have hy : y ∈ (n :: ns).map PyData.int := hy
    obtain ⟨i, _, rfl⟩ := List.mem_map.mp hx
    obtain ⟨j, _, rfl⟩ := List.mem_map.mp hy
    simp [PySem.W.alike]
  · have hx : x ∈ (n :: ns).map PyData.int := hx
    obtain ⟨i, _, rfl⟩ := List.mem_map.mp hx
    exact fun z => nomatch z
  · have e : PyData.depthAll (PyData.int n :: ns.map .int) = 0 := depth_ints (n :: ns)
    rw [e]
    omega
  · rw [PySem.W.minD_ints] at rd
    cases rd
    exact ⟨.int _, H, I.kept hk, ⟨_, rfl⟩, q⟩
def rMaxI (K : PySem.W.Frag) : List V → Hp → VK → Prop := fun vs H Q => ∃ (a : Addr) (n : Int) (ns : List Int), vs = [.ref a] ∧ SqL K H a ((n :: ns).map V.int) ∧ Q (.int (ns.foldl max n)) H
theorem call_maxI (hc : X.calm = true) (hu : X.A.units + 64 < cLine) : CallR X (.builtin "max") (rMaxI X.K) := by
  intro pins s σ H vs us Q I r h
  obtain ⟨a, n, ns, rfl, hs, q⟩ := h
  rw [Vals.ref1 r]
  obtain ⟨its, rv, hl, _⟩ := I.list hs
  obtain ⟨as, hr⟩ := Dp.readsAll I _ _ _ (DpAll.of_ints (n :: ns)) rv
  refine PySem.W.max_list_data (x := .int n) (xs := ns.map .int) (as := as) (I.ok.hd hc) hl.isList hr ⟨fun x hx y hy => ?_, fun x hx => ?_⟩ ?_ (fun i v h' tk bs hv rd hk => ?_)
  · have hx : x ∈ (n :: ns).map PyData.int := hx
    have hy : y ∈ (n :: ns).map PyData.int := hy
    obtain ⟨i, _, rfl⟩ := List.mem_map.mp hx
    obtain ⟨j, _, rfl⟩ := List.mem_map.mp hy
    simp [PySem.W.alike]
  · have hx : x ∈ (n :: ns).map PyData.int := hx
    obtain ⟨i, _, rfl⟩ := List.mem_map.mp hx
    exact fun z => nomatch z
  · have e : PyData.depthAll (PyData.int n :: ns.map .int) = 0 := depth_ints (n :: ns)
    rw [e]
    omega
  · rw [PySem.W.maxD_ints] at rd
    cases rd
    exact ⟨.int _, H, I.kept hk, ⟨_, rfl⟩, q⟩
theorem maxIK (K : PySem.W.Frag) (hu : X.A.units + 64 < cLine) (hc : X.calm = true := by rfl) (h : X.K = K := by rfl) : CallR X (.builtin "max") (rMaxI K) := h ▸ call_maxI hc hu
theorem minIK (K : PySem.W.Frag) (hu : X.A.units + 64 < cLine) (hc : X.calm = true := by rfl) (h : X.K = K := by rfl) : CallR X (.builtin "min") (rMinI K) := h ▸ call_minI hc hu
end
end TL
namespace TL
open PySem PySem.Spec PyProof.Rows L2
/-! ### sorted(d): the keys themselves -/
def rSortDT2 : List V → Hp → VK → Prop := fun vs H Q => ∃ (kvs : List (List Key × V)) (bs : List (List Int)) (a : Addr), vs = [.ref a] ∧ H a = some (.dT kvs) ∧ kvs.map (·.1) = bs.map kI ∧ ((∀ b ∈ bs, b ≠ []) ∨ bs.length ≤ 1) ∧ bs.length ≤ 5000 ∧
  ∀ p ys, H p = none → (∀ y ∈ ys, ∃ b r, y = .ref b ∧ r ∈ bs ∧ H b = some (.tup (r.map V.int))) → ys.length = bs.length → Q (.ref p) (upd H p (.lst ys))
theorem refs_of {H : Hp} : ∀ {us : List Value} {bs : List (List Int)}, PySem.W.EachIs (fun (u : Value) (b : List Int) => ∃ a, u = Value.ref a ∧ H a = some (.tup (b.map V.int))) us bs → ∃ ys : List V, Vals ys us ∧ ∀ y ∈ ys, ∃ b r, y = .ref b ∧ r ∈ bs ∧ H b = some (.tup (r.map V.int))
  | _, _, .nil => ⟨[], .nil, (fun _ h => nomatch h)⟩
  | _, _, .cons ⟨a, e, h⟩ t => by
    obtain ⟨ys, h1, h2⟩ := refs_of t
    subst e
    refine ⟨.ref a :: ys, .cons rfl h1, fun y hy => ?_⟩
    rcases List.mem_cons.mp hy with rfl | hy
    · exact ⟨a, _, rfl, List.mem_cons_self, h⟩
    · obtain ⟨b, r, e1, e2, e3⟩ := h2 y hy
      exact ⟨b, r, e1, List.mem_cons_of_mem _ e2, e3⟩
section
variable {X : Cx}
theorem cr_sortDT2 (hc : X.calm = true) (hu : X.A.units + 64 < cLine) : CallR X (.builtin "sorted") rSortDT2 := by
  intro pins s σ H vs us Q I r h
  unfold rSortDT2 at h
  obtain ⟨kvs, bs, a, rfl, ha, hkb, so, hl5, q⟩ := h
  obtain ⟨u, rfl, rx⟩ := r.one
  cases rx
  obtain ⟨z, hs, ks, pr, o, es, ep, ho, hx, hdt, he, hn⟩ := (show ObjOk X.prog X.w H s.heap a (.dT kvs) from I.hok a _ ha)
  have l1 : es.size = ks.length := size_of_entries he
  have l2 : kvs.length = ks.length := Paired.length pr
  have lb : ks.length = bs.length := by
    have := congrArg List.length hkb
    rw [List.length_map, List.length_map] at this
    omega
  refine Calls.call_function_entry kind_sorted plain_sorted entry_sorted (args_sorted1 _) ?_
  unfold Builtin.«sorted»
  refine wpAny_bind (m := checkCount "sorted" 1 1 _) (wpAny_pure ?_)
  refine wpAny_bind (PySem.W.kdu_collect (A := X.A.in1) (kdl_raw hs hx hdt) (I.ok.hd hc) ho (by omega) fun h' tk acc kp it => ?_)
  have ea : acc.toList = ks.map fun x => Value.ref x.2.1 := by
    have hl : acc.toList.length = ks.length := by rw [Array.length_toList, it.1]; exact l1
    apply List.ext_getElem?
    intro j
    rw [List.getElem?_map]
    cases hj : acc.toList[j]? with
    | none =>
      have h1 := List.getElem?_eq_none_iff.mp hj
      rw [List.getElem?_eq_none (by omega)]
      all_goals rfl
    | some v =>
      obtain ⟨en, hen, hv⟩ := it.2 j v (by rw [← Array.getElem?_toList]; exact hj)
      have qe := entry_at he j
      rw [hen] at qe
      cases hb : ks[j]? with
      | none =>
        rw [hb] at qe
        exact nomatch (show some en = none from qe)
      | some b =>
        rw [hb] at qe
        have e2 : en = entryOfKey (tupleKind (mixKind X.prog X.w)) b := Option.some.inj qe
        rw [hv, e2]
        all_goals rfl
  have ek := each_keys (P := X.prog) (w := X.w) (K := X.K) pr hkb
  rw [← ea] at ek
  generalize hL : acc.toList = L1 at ek
  have lL : L1.length = bs.length := ek.length
  refine wpAny_bind (wpAny_newList ?_ (by rw [sizeLine_eq]; omega))
  have hoL : (h'.push (seqObj "list" L1.toArray 0)).get? h'.objs.size = some (seqObj "list" L1.toArray 0) := Heap.get?_push_size _ rfl
  have e1 := ek
  have e2 : PySem.W.EachIs (fun (u : Value) (b : List Int) => ∃ as, Reads (h'.push (seqObj "list" L1.toArray 0)) u (intsD b) as ∧ h'.objs.size ∉ as) L1 bs := ek.mono fun u b ⟨a, eu, hb⟩ => by
    subst eu
    obtain ⟨_, its, rv, oq, hoq, hcq, n, hdq⟩ := (show ObjOk X.prog X.w H s.heap a (.tup (b.map V.int)) from I.hok a _ hb)
    exact ⟨[], .tuple (Heap.get?_push_of_some _ (kp _ _ hoq)) hcq hdq (reads_vals (by simpa using rv)), fun z => nomatch z⟩
  refine wpAny_bind (wpAny_holding (sort_rows (A := X.A.in1) (s := { s with heap := h'.push (seqObj "list" L1.toArray 0), toks := tk }) hoL e1 e2 so (by rw [sizeLine_eq]; omega) (by show X.A.units + 1 + 60 < cLine; omega) fun out ho2 eo => ?_))
  obtain ⟨ys, ry, ty⟩ := refs_of eo
  obtain ⟨c, hc2⟩ := sortedHeap_at (vs := L1) (out := out.toArray) hoL
  have hz : s.heap.get? h'.objs.size = none := by
    cases e : s.heap.get? h'.objs.size with
    | none => rfl
    | some u => exact absurd (Heap.lt_size (kp _ _ e)) (Nat.lt_irrefl _)
  have hnn : H h'.objs.size = none := I.hok.gone hz
  have hq : ∀ b o, s.heap.get? b = some o → (sortedHeap (h'.push (seqObj "list" L1.toArray 0)) h'.objs.size L1 out.toArray).get? b = some o := fun b u e => by
    have q := kp b u e
    have hlt := Heap.lt_size q
    rw [sortedHeap_old (Nat.ne_of_lt hlt) (by rw [size_push']; exact Nat.lt_succ_of_lt hlt)]
    exact Heap.get?_push_of_some _ q
  have hlen : ys.length ≤ sizeLine := by rw [ry.length, ho2, sizeLine_eq]; omega
  have J : L2.Inv X pins σ (upd H h'.objs.size (.lst ys)) { s with heap := sortedHeap (h'.push (seqObj "list" L1.toArray 0)) h'.objs.size L1 out.toArray, toks := tk } := Inv.laidN I hq hz ⟨hlen, out, c, ry, hc2⟩
  exact wpAny_pure ⟨_, rfl, ⟨.ref h'.objs.size, _, J, rfl, q _ ys hnn (fun y hy => by
    obtain ⟨b, r, e1, e2, e3⟩ := ty y hy
    exact ⟨b, r, e1, (List.mergeSort_perm _ _).mem_iff.mp e2, e3⟩) (by rw [ry.length, ho2])⟩⟩
theorem sortDT2K (hu : X.A.units + 64 < cLine) (hc : X.calm = true := by rfl) : CallR X (.builtin "sorted") rSortDT2 := cr_sortDT2 hc hu
end
end TL
namespace TL
open PySem PySem.Spec PyProof.Rows L2
/-! ### sorted of a list of tracked rows: the rows themselves -/
inductive TrR (H : Hp) : List V → List (List Int) → Prop
  | nil : TrR H [] []
  | cons {b : Addr} {r : List Int} {ys : List V} {M : List (List Int)} : H b = some (.tup (r.map V.int)) → TrR H ys M → TrR H (.ref b :: ys) (r :: M)
theorem TrR.same {H H' : Hp} (s : Same H H') : ∀ {ys : List V} {M : List (List Int)}, TrR H ys M → TrR H' ys M
  | _, _, .nil => .nil
  | _, _, .cons h t => .cons (s _ _ h) (TrR.same s t)
theorem TrR.all {K : PySem.W.Frag} {H : Hp} : ∀ {ys : List V} {M : List (List Int)}, TrR H ys M → DpAll K H ys (M.map intsD)
  | _, _, .nil => .nil
  | _, _, .cons h t => .cons (Dp.ints (SqT.of h)) (TrR.all t)
theorem TrR.length {H : Hp} : ∀ {ys : List V} {M : List (List Int)}, TrR H ys M → ys.length = M.length
  | _, _, .nil => rfl
  | _, _, .cons _ t => congrArg (· + 1) (TrR.length t)
theorem TrR.get {H : Hp} : ∀ {ys : List V} {M : List (List Int)} {i : Nat} {y : V}, TrR H ys M → ys[i]? = some y → ∃ b r, y = .ref b ∧ M[i]? = some r ∧ H b = some (.tup (r.map V.int))
  | _, _, 0, _, .cons h _, e => by
    cases e
    exact ⟨_, _, rfl, rfl, h⟩
  | _, _, i + 1, _, .cons _ t, e => by
    obtain ⟨b, r, h1, h2, h3⟩ := TrR.get (i := i) t e
    exact ⟨b, r, h1, h2, h3⟩
theorem trR_each {H : Hp} : ∀ {xs : List V} {us : List Value} {bs : List (List Int)}, Vals xs us → TrR H xs bs → PySem.W.EachIs (fun (u : Value) (b : List Int) => ∃ a, u = Value.ref a ∧ H a = some (.tup (b.map V.int))) us bs
  | _, _, _, .nil, .nil => .nil
  | _, _, _, .cons r1 r2, .cons h t => .cons ⟨_, r1, h⟩ (trR_each r2 t)
theorem trR_of {H : Hp} : ∀ {us : List Value} {bs : List (List Int)}, PySem.W.EachIs (fun (u : Value) (b : List Int) => ∃ a, u = Value.ref a ∧ H a = some (.tup (b.map V.int))) us bs → ∃ ys : List V, Vals ys us ∧ TrR H ys bs
  | _, _, .nil => ⟨[], .nil, .nil⟩
  | _, _, .cons ⟨a, e, h⟩ t => by
    obtain ⟨ys, h1, h2⟩ := trR_of t
    subst e
    exact ⟨.ref a :: ys, .cons rfl h1, .cons h h2⟩
def rSortRT (K : PySem.W.Frag) : List V → Hp → VK → Prop := fun vs H Q => ∃ (bs : List (List Int)) (a : Addr) (xs : List V), vs = [.ref a] ∧ SqL K H a xs ∧ TrR H xs bs ∧ ((∀ b ∈ bs, b ≠ []) ∨ bs.length ≤ 1) ∧ bs.length ≤ 5000 ∧
  ∀ p ys, H p = none → TrR H ys (bs.mergeSort (PySem.W.dataLe false intsD)) → Q (.ref p) (upd H p (.lst ys))
section
variable {X : Cx}
theorem cr_sortRT (hu : X.A.units + 64 < cLine) : CallR X (.builtin "sorted") (rSortRT X.K) := by
  intro pins s σ H vs us Q I r h
  obtain ⟨bs, a, xs, rfl, hs, ha, so, hl5, q⟩ := h
  cases r with
  | cons r1 r2 =>
    cases r2
    rename_i u
    obtain rfl : u = Value.ref a := r1
    obtain ⟨its, rv, hl, hz⟩ := I.list hs
    have e1 := trR_each rv ha
    have lb : xs.length = bs.length := ha.length
    have e2 : PySem.W.EachIs (fun v b => ∃ as, Reads s.heap v (intsD b) as) its bs := by
      have e3 := each_of intsD rv (ha.all (K := X.K))
      exact e3.mono fun u b ⟨x, rx, hx⟩ => Dp.reads I _ x u hx rx
    refine sorted_rows hl.isList e1 e2 so (by omega) (by omega) fun out hlen eo => ?_
    obtain ⟨ys, ry, dy⟩ := trR_of eo
    obtain ⟨c, hc⟩ := PyProof.Rows.sortedAll_at s.heap its out.toArray
    have fr : H (s.heap.objs.size + 1) = none := I.hok.fresh (Nat.le_succ _)
    refine ⟨.ref (s.heap.objs.size + 1), upd H (s.heap.objs.size + 1) (.lst ys), I.laid (t' := s.toks) (fun _ _ => PyProof.Rows.sortedAll_old) (Nat.le_succ _) ?_, rfl, q _ ys fr dy⟩
    exact ⟨by have := ry.length; omega, out, c, ry, hc⟩
theorem sortRTK (K : PySem.W.Frag) (hu : X.A.units + 64 < cLine) (h : X.K = K := by rfl) : CallR X (.builtin "sorted") (rSortRT K) := h ▸ cr_sortRT hu
end
end TL
namespace TL
open PySem PySem.Spec PyProof.Rows L2
/-! ### forests without edges, a path -/
theorem isFor_nil (m : Nat) : IsFor m [] := ⟨.nil, (fun _ h => nomatch h), rng m, [], ⟨List.Perm.refl _, .nil, (fun _ h => nomatch h)⟩, .nil⟩
def pathE : List (Int × Int) := (rng 11).map fun k => (k, k + 1)
theorem isFor_path : IsFor 12 pathE := by
  refine ⟨by unfold AscP LtP; decide +kernel, by decide +kernel, rng 12, (List.range 11).map (fun k => (k + 1, k)), ⟨List.Perm.refl _, by decide +kernel, by decide +kernel⟩, ?_⟩
  rw [show ((List.range 11).map fun k => (k + 1, k)).map (edgeOf (rng 12)) = pathE by decide +kernel]
theorem isSet_one {m : Nat} {es : List (Int × Int)} (f : IsFor m es) {a : Int} (h : 0 ≤ a ∧ a < m) : IsSet m es [a] :=
  ⟨.cons (fun _ h => nomatch h) .nil, fun v hv => by rw [List.mem_singleton.mp hv]; exact h, fun u hu v hv z => by
    rw [List.mem_singleton.mp hu, List.mem_singleton.mp hv] at z
    exact f.loop _ z⟩
theorem after_one (a v : Int) : after [a] a v = [v] := by
  unfold after
  simp [srtI]
theorem mem_path {u v : Int} : (u, v) ∈ pathE ↔ v = u + 1 ∧ 0 ≤ u ∧ u < 11 := by
  unfold pathE
  rw [List.mem_map]
  constructor
  · rintro ⟨k, hk, e⟩
    have := Prod.mk.inj e
    have := mem_rng.mp hk
    omega
  · rintro ⟨h1, h2, h3⟩
    exact ⟨u, mem_rng.mpr ⟨h2, by omega⟩, by rw [h1]⟩
theorem path_up : ∀ k : Nat, k ≤ 11 → Rn 12 pathE [0] k [(k : Int)]
  | 0, _ => .zero
  | k + 1, h => by
    have ih := path_up k (by omega)
    have p : ((k : Int), (k : Int) + 1) ∈ slidesP 12 pathE [(k : Int)] := by
      refine mem_slidesP.mpr ⟨List.mem_singleton.mpr rfl, mem_nearL.mpr ⟨⟨by omega, by omega⟩, ?_⟩, ?_⟩
      · rw [ordP_comm]
        unfold ordP
        rw [if_pos (by omega)]
        exact mem_path.mpr ⟨rfl, by omega, by omega⟩
      · refine List.filter_eq_nil_iff.mpr fun o _ => ?_
        intro z
        obtain ⟨h1, h2⟩ := Bool.and_eq_true_iff.mp z
        rw [List.mem_singleton.mp (of_decide_eq_true h1)] at h2
        simp at h2
    have := Rn.step ih p
    rw [after_one] at this
    have e : ((k + 1 : Nat) : Int) = (k : Int) + 1 := by omega
    rw [e]
    exact this
theorem path_low {j : Nat} {T : List Int} (h : Rn 12 pathE [0] j T) : ∃ x : Int, T = [x] ∧ x ≤ j := by
  induction h with
  | zero => exact ⟨0, rfl, by omega⟩
  | @step k T u v _ p ih =>
    obtain ⟨x, rfl, hx⟩ := ih
    obtain ⟨h1, h2, _⟩ := mem_slidesP.mp p
    obtain rfl := List.mem_singleton.mp h1
    have h3 := isFor_path.mem_ord.mp (mem_nearL.mp h2).2
    refine ⟨v, after_one _ _, ?_⟩
    rcases h3 with z | z
    · have := mem_path.mp z
      omega
    · have := mem_path.mp z
      omega
theorem path_dst : Dst 12 pathE [0] 11 [11] := ⟨path_up 11 (Nat.le_refl _), fun j hj => by
  obtain ⟨x, e, hx⟩ := path_low hj
  have := (List.cons.inj e).1
  omega⟩
theorem bare_low {m : Nat} {S T : List Int} {j : Nat} (h : Rn m [] S j T) : T = S := by
  induction h with
  | zero => rfl
  | step _ p _ =>
    have := (mem_nearL.mp (mem_slidesP.mp p).2.1).2
    exact nomatch this
/-! ### a distance is smaller than the number of settings -/
theorem Dst.chain {m : Nat} {es : List (Int × Int)} {S : List Int} : ∀ {n : Nat} {T : List Int}, Dst m es S n T → ∃ l : List (List Int), l.length = n + 1 ∧ l.Nodup ∧ ∀ r ∈ l, ∃ j, j ≤ n ∧ Dst m es S j r
  | 0, T, h => ⟨[T], rfl, List.pairwise_singleton _ _, fun r hr => ⟨0, Nat.le_refl _, by rw [List.mem_singleton.mp hr]; exact h⟩⟩
  | n + 1, T, h => by
    obtain ⟨T', u, v, h1, _, _⟩ := h.prev
    obtain ⟨l, e, nd, al⟩ := Dst.chain h1
    refine ⟨T :: l, by rw [List.length_cons, e], List.nodup_cons.mpr ⟨fun z => ?_, nd⟩, fun r hr => ?_⟩
    · obtain ⟨j, hj, hd⟩ := al T z
      have := hd.uniq h
      omega
    · rcases List.mem_cons.mp hr with rfl | hr
      · exact ⟨n + 1, Nat.le_refl _, h⟩
      · obtain ⟨j, hj, hd⟩ := al r hr
        exact ⟨j, by omega, hd⟩
theorem nd_sub {l : List (List Int)} (nd : l.Nodup) : ∀ {L : List (List Int)}, (∀ r ∈ l, r ∈ L) → l.length ≤ L.length := by
  induction l with
  | nil => intro L _; exact Nat.zero_le _
  | cons a l ih =>
    intro L h
    obtain ⟨na, nd'⟩ := List.nodup_cons.mp nd
    have ha := h a List.mem_cons_self
    have := ih nd' (L := L.erase a) fun r hr => (List.mem_erase_of_ne fun z => na (by rw [← z]; exact hr)).mpr (h r (List.mem_cons_of_mem _ hr))
    rw [List.length_erase_of_mem ha] at this
    have := List.length_pos_of_mem ha
    rw [List.length_cons]
    omega
theorem Dst.few {m : Nat} {es : List (Int × Int)} {S T : List Int} {n : Nat} {L : List (List Int)} (h : Dst m es S n T) (rc : ∀ r, Rch m es S r → r ∈ L) (hl : L.length ≤ 4096) : n ≤ 4096 := by
  obtain ⟨l, e, nd, al⟩ := h.chain
  have : l.length ≤ L.length := nd_sub nd fun r hr => by
    obtain ⟨j, _, hd⟩ := al r hr
    exact rc r hd.1.rch
  omega
theorem shows_int {i : Int} (h0 : 0 ≤ i) (h : i ≤ 5000) : Shows (.int i) := by
  have h1 : i.natAbs.log2 < 13 := PySem.Flt.log2_lt_of (by decide) (by omega)
  refine Sm.shows (n := 20) (k := 0) ⟨?_, by simp [PyData.hasDict], by simp [PyData.depth], ?_, ?_⟩ (by decide) (by decide)
  · simp only [PyData.showable]
    exact decide_eq_true (by omega)
  · simp only [PyData.leavesShort]
    exact decide_eq_true (PyData.shown_int_le (by omega))
  · simp only [PyData.weight]
    split <;> omega
end TL
namespace TL
open PySem PySem.Spec PyProof.Rows L2
def topS (i : Nat) : Stmt := PySem.Challenge.pw_treelamps_k45_whole_side_by_side.main.body.getD i (.Pass ⟨0, 0, 0, 0⟩)
abbrev sIsNumber : Stmt := topS 2
abbrev nIsNumber : List Str := ["value"]
theorem scIsNumber : FnScope nIsNumber ["value"] (defScope sIsNumber) :=
  ⟨rfl, rfl, rfl, by decide +kernel, rfl, by decide +kernel, by decide +kernel⟩
abbrev sIsPair : Stmt := topS 3
abbrev nIsPair : List Str := ["value"]
theorem scIsPair : FnScope nIsPair ["value"] (defScope sIsPair) :=
  ⟨rfl, rfl, rfl, by decide +kernel, rfl, by decide +kernel, by decide +kernel⟩
abbrev sMerged : Stmt := topS 4
abbrev nMerged : List Str := ["labels", "a", "b", "old", "new", "vertex"]
theorem scMerged : FnScope nMerged ["labels", "a", "b"] (defScope sMerged) :=
  ⟨rfl, rfl, rfl, by decide +kernel, rfl, by decide +kernel, by decide +kernel⟩
abbrev sNeighboursOf : Stmt := topS 5
abbrev nNeighboursOf : List Str := ["forest", "vertex", "n", "edges", "lower", "upper", "a", "b"]
theorem scNeighboursOf : FnScope nNeighboursOf ["forest", "vertex"] (defScope sNeighboursOf) :=
  ⟨rfl, rfl, rfl, by decide +kernel, rfl, by decide +kernel, by decide +kernel⟩
abbrev sPartsOf : Stmt := topS 6
abbrev nPartsOf : List Str := ["forest", "vertices", "n", "edges", "labels", "a", "b", "parts", "vertex", "label"]
theorem scPartsOf : FnScope nPartsOf ["forest", "vertices"] (defScope sPartsOf) :=
  ⟨rfl, rfl, rfl, by decide +kernel, rfl, by decide +kernel, by decide +kernel⟩
abbrev sBlockingLamps : Stmt := topS 15
abbrev nBlockingLamps : List Str := ["forest", "setting", "u", "v", "vertex"]
theorem scBlockingLamps : FnScope nBlockingLamps ["forest", "setting", "u", "v"] (defScope sBlockingLamps) :=
  ⟨rfl, rfl, rfl, by decide +kernel, rfl, by decide +kernel, by decide +kernel⟩
abbrev sCheckLamp : Stmt := topS 16
abbrev nCheckLamp : List Str := ["setting", "value"]
theorem scCheckLamp : FnScope nCheckLamp ["setting", "value"] (defScope sCheckLamp) :=
  ⟨rfl, rfl, rfl, by decide +kernel, rfl, by decide +kernel, by decide +kernel⟩
abbrev sSlideLamp : Stmt := topS 17
abbrev nSlideLamp : List Str := ["forest", "setting", "u", "v", "blocking", "lamp"]
theorem scSlideLamp : FnScope nSlideLamp ["forest", "setting", "u", "v"] (defScope sSlideLamp) :=
  ⟨rfl, rfl, rfl, by decide +kernel, rfl, by decide +kernel, by decide +kernel⟩
abbrev sPossibleSlides : Stmt := topS 18
abbrev nPossibleSlides : List Str := ["forest", "setting", "steps", "u", "v"]
theorem scPossibleSlides : FnScope nPossibleSlides ["forest", "setting"] (defScope sPossibleSlides) :=
  ⟨rfl, rfl, rfl, by decide +kernel, rfl, by decide +kernel, by decide +kernel⟩
abbrev sIsPossible : Stmt := topS 19
abbrev nIsPossible : List Str := ["forest", "setting", "value", "u", "v"]
theorem scIsPossible : FnScope nIsPossible ["forest", "setting", "value"] (defScope sIsPossible) :=
  ⟨rfl, rfl, rfl, by decide +kernel, rfl, by decide +kernel, by decide +kernel⟩
abbrev sFollow : Stmt := topS 20
abbrev nFollow : List Str := ["forest", "setting", "slides", "lamps", "index", "item", "u", "v"]
theorem scFollow : FnScope nFollow ["forest", "setting", "slides"] (defScope sFollow) :=
  ⟨rfl, rfl, rfl, by decide +kernel, rfl, by decide +kernel, by decide +kernel⟩
abbrev sDistancesFrom : Stmt := topS 22
abbrev nDistancesFrom : List Str := ["forest", "setting", "distances", "waiting", "lamps", "u", "v", "other"]
theorem scDistancesFrom : FnScope nDistancesFrom ["forest", "setting"] (defScope sDistancesFrom) :=
  ⟨rfl, rfl, rfl, by decide +kernel, rfl, by decide +kernel, by decide +kernel⟩
abbrev sClassOf : Stmt := topS 23
abbrev nClassOf : List Str := ["forest", "setting"]
theorem scClassOf : FnScope nClassOf ["forest", "setting"] (defScope sClassOf) :=
  ⟨rfl, rfl, rfl, by decide +kernel, rfl, by decide +kernel, by decide +kernel⟩
abbrev sStepsBetween : Stmt := topS 24
abbrev nStepsBetween : List Str := ["forest", "first", "second"]
theorem scStepsBetween : FnScope nStepsBetween ["forest", "first", "second"] (defScope sStepsBetween) :=
  ⟨rfl, rfl, rfl, by decide +kernel, rfl, by decide +kernel, by decide +kernel⟩
abbrev sCloserSlide : Stmt := topS 25
abbrev nCloserSlide : List Str := ["forest", "setting", "distances", "u", "v"]
theorem scCloserSlide : FnScope nCloserSlide ["forest", "setting", "distances"] (defScope sCloserSlide) :=
  ⟨rfl, rfl, rfl, by decide +kernel, rfl, by decide +kernel, by decide +kernel⟩
abbrev sShortestPlan : Stmt := topS 26
abbrev nShortestPlan : List Str := ["forest", "first", "second", "distances", "plan", "lamps", "u", "v"]
theorem scShortestPlan : FnScope nShortestPlan ["forest", "first", "second"] (defScope sShortestPlan) :=
  ⟨rfl, rfl, rfl, by decide +kernel, rfl, by decide +kernel, by decide +kernel⟩
abbrev sSideBySide : Stmt := topS 28
abbrev nSideBySide : List Str := ["first", "second", "n", "edges", "more", "others", "a", "b"]
theorem scSideBySide : FnScope nSideBySide ["first", "second"] (defScope sSideBySide) :=
  ⟨rfl, rfl, rfl, by decide +kernel, rfl, by decide +kernel, by decide +kernel⟩
abbrev sFreeNeighbour : Stmt := topS 30
abbrev nFreeNeighbour : List Str := ["forest", "left", "lamp", "vertex"]
theorem scFreeNeighbour : FnScope nFreeNeighbour ["forest", "left", "lamp"] (defScope sFreeNeighbour) :=
  ⟨rfl, rfl, rfl, by decide +kernel, rfl, by decide +kernel, by decide +kernel⟩
abbrev sExitsOf : Stmt := topS 31
abbrev nExitsOf : List Str := ["forest", "setting", "exits", "left", "found", "lamp", "exit_vertex"]
theorem scExitsOf : FnScope nExitsOf ["forest", "setting"] (defScope sExitsOf) :=
  ⟨rfl, rfl, rfl, by decide +kernel, rfl, by decide +kernel, by decide +kernel⟩
abbrev sGreatestLock : Stmt := topS 32
abbrev nGreatestLock : List Str := ["forest", "setting", "exits", "lamp"]
theorem scGreatestLock : FnScope nGreatestLock ["forest", "setting"] (defScope sGreatestLock) :=
  ⟨rfl, rfl, rfl, by decide +kernel, rfl, by decide +kernel, by decide +kernel⟩
abbrev sIsApart : Stmt := topS 34
abbrev nIsApart : List Str := ["forest", "lock", "vertex", "other"]
theorem scIsApart : FnScope nIsApart ["forest", "lock", "vertex"] (defScope sIsApart) :=
  ⟨rfl, rfl, rfl, by decide +kernel, rfl, by decide +kernel, by decide +kernel⟩
abbrev sPiecesOf : Stmt := topS 35
abbrev nPiecesOf : List Str := ["forest", "lock", "n", "edges", "vertex"]
theorem scPiecesOf : FnScope nPiecesOf ["forest", "lock"] (defScope sPiecesOf) :=
  ⟨rfl, rfl, rfl, by decide +kernel, rfl, by decide +kernel, by decide +kernel⟩
abbrev sLampsIn : Stmt := topS 36
abbrev nLampsIn : List Str := ["setting", "piece", "lamp"]
theorem scLampsIn : FnScope nLampsIn ["setting", "piece"] (defScope sLampsIn) :=
  ⟨rfl, rfl, rfl, by decide +kernel, rfl, by decide +kernel, by decide +kernel⟩
abbrev sTreeIn : Stmt := topS 38
abbrev nTreeIn : List Str := ["forest", "piece", "n", "edges", "a", "b"]
theorem scTreeIn : FnScope nTreeIn ["forest", "piece"] (defScope sTreeIn) :=
  ⟨rfl, rfl, rfl, by decide +kernel, rfl, by decide +kernel, by decide +kernel⟩
abbrev sWithout : Stmt := topS 39
abbrev nWithout : List Str := ["tree", "vertex", "n", "edges", "edge"]
theorem scWithout : FnScope nWithout ["tree", "vertex"] (defScope sWithout) :=
  ⟨rfl, rfl, rfl, by decide +kernel, rfl, by decide +kernel, by decide +kernel⟩
abbrev sNextLeaf : Stmt := topS 40
abbrev nNextLeaf : List Str := ["tree", "n", "edges", "leaves", "leaf", "beside", "vertex", "other"]
theorem scNextLeaf : FnScope nNextLeaf ["tree"] (defScope sNextLeaf) :=
  ⟨rfl, rfl, rfl, by decide +kernel, rfl, by decide +kernel, by decide +kernel⟩
abbrev sNormalSteps : Stmt := topS 41
abbrev nNormalSteps : List Str := ["forest", "piece", "count", "tree", "steps", "leaf"]
theorem scNormalSteps : FnScope nNormalSteps ["forest", "piece", "count"] (defScope sNormalSteps) :=
  ⟨rfl, rfl, rfl, by decide +kernel, rfl, by decide +kernel, by decide +kernel⟩
abbrev sNormalSetting : Stmt := topS 43
abbrev nNormalSetting : List Str := ["forest", "setting", "lock", "lamps", "piece", "steps", "tree", "leaf"]
theorem scNormalSetting : FnScope nNormalSetting ["forest", "setting"] (defScope sNormalSetting) :=
  ⟨rfl, rfl, rfl, by decide +kernel, rfl, by decide +kernel, by decide +kernel⟩
abbrev sLDraws : Stmt := topS 45
abbrev nLDraws : List Str := ["_law_script", "_law_cells", "_law_cell"]
theorem scLDraws : FnScope nLDraws ["_law_script"] (defScope sLDraws) :=
  ⟨rfl, rfl, rfl, by decide +kernel, rfl, by decide +kernel, by decide +kernel⟩
abbrev sLNext : Stmt := topS 46
abbrev nLNext : List Str := ["_law_state", "_law_many", "_law_cells", "_law_count", "_law_rests", "_law_index", "_law_digit", "_law_mixed"]
theorem scLNext : FnScope nLNext ["_law_state", "_law_many"] (defScope sLNext) :=
  ⟨rfl, rfl, rfl, by decide +kernel, rfl, by decide +kernel, by decide +kernel⟩
abbrev sLOne : Stmt := topS 47
abbrev nLOne : List Str := ["_law_state", "_law_items"]
theorem scLOne : FnScope nLOne ["_law_state", "_law_items"] (defScope sLOne) :=
  ⟨rfl, rfl, rfl, by decide +kernel, rfl, by decide +kernel, by decide +kernel⟩
abbrev sLShuffled : Stmt := topS 48
abbrev nLShuffled : List Str := ["_law_state", "_law_items", "_law_left", "_law_found"]
theorem scLShuffled : FnScope nLShuffled ["_law_state", "_law_items"] (defScope sLShuffled) :=
  ⟨rfl, rfl, rfl, by decide +kernel, rfl, by decide +kernel, by decide +kernel⟩
abbrev sLForest : Stmt := topS 49
abbrev nLForest : List Str := ["_law_state", "_law_least", "_law_most", "_law_n", "_law_order", "_law_edges", "_law_kind", "_law_lack", "_law_k", "_law_on"]
theorem scLForest : FnScope nLForest ["_law_state", "_law_least", "_law_most"] (defScope sLForest) :=
  ⟨rfl, rfl, rfl, by decide +kernel, rfl, by decide +kernel, by decide +kernel⟩
abbrev sLNear : Stmt := topS 50
abbrev nLNear : List Str := ["_law_forest_here", "_law_vertex", "_law_a", "_law_b"]
theorem scLNear : FnScope nLNear ["_law_forest_here", "_law_vertex"] (defScope sLNear) :=
  ⟨rfl, rfl, rfl, by decide +kernel, rfl, by decide +kernel, by decide +kernel⟩
abbrev sLSetting : Stmt := topS 51
abbrev nLSetting : List Str := ["_law_state", "_law_forest_here", "_law_limit", "_law_found", "_law_vertex", "_law_near_here", "_law_lamp"]
theorem scLSetting : FnScope nLSetting ["_law_state", "_law_forest_here"] (defScope sLSetting) :=
  ⟨rfl, rfl, rfl, by decide +kernel, rfl, by decide +kernel, by decide +kernel⟩
abbrev sLBoth : Stmt := topS 52
abbrev nLBoth : List Str := ["_law_n", "_law_one_here", "_law_other", "_law_lamp"]
theorem scLBoth : FnScope nLBoth ["_law_n", "_law_one_here", "_law_other"] (defScope sLBoth) :=
  ⟨rfl, rfl, rfl, by decide +kernel, rfl, by decide +kernel, by decide +kernel⟩
abbrev sLRight : Stmt := topS 53
abbrev nLRight : List Str := ["_law_state", "_law_left", "_law_right_here", "_law_one_here", "_law_other", "_law_n", "_law_forest_here", "_law_first", "_law_members", "_law_others", "_law_due", "_law_member", "_law_call", "_law_ends", "_law_second", "_law_steps", "_law_plan", "_law_two", "_law_u", "_law_v"]
theorem scLRight : FnScope nLRight ["_law_state", "_law_left", "_law_right_here", "_law_one_here", "_law_other"] (defScope sLRight) :=
  ⟨rfl, rfl, rfl, by decide +kernel, rfl, by decide +kernel, by decide +kernel⟩
abbrev sLaw : Stmt := topS 54
abbrev nLaw : List Str := ["_law_script", "_law_state", "_law_turn", "_law_left", "_law_right_here"]
theorem scLaw : FnScope nLaw ["_law_script"] (defScope sLaw) :=
  ⟨rfl, rfl, rfl, by decide +kernel, rfl, by decide +kernel, by decide +kernel⟩
section
variable {P : Program} {w : World} {K : PySem.W.Frag} {mg : Str → Option Value} {base : Heap}
/-! ### the draws -/
def spLDraws (K : PySem.W.Frag) : Sp := fun vs H Q _ => ∃ (a : Addr) (ns : List Int), vs = [.ref a] ∧
  SqL K H a (ns.map V.int) ∧ ns.length ≤ 63 ∧ ∀ H' d r c, Same H H' → Dw H' d r c 0 → Q (.ref d) H'
theorem ok_LDraws {f : Addr} {fd : FuncData} {k : Nat} (F : Fun K "_law_draws" "_law_draws" sLDraws f fd) (m_abs : mg "abs" = none) (m_int : mg "int" = none) (m_len : mg "len" = none) :
    FnOk P w K mg base CX0 (k + 1) f fd ["_law_script"] (spLDraws K) := by
  refine F.ok scLDraws (fun vs H Q E h => ?_) (fun cdv A outer s H vs Q E hr h => ?_)
  · obtain ⟨a, ns, rfl, _⟩ := h
    rfl
  · obtain ⟨a, ns, rfl, hS, hlen, q⟩ := h
    refine ⟨_, (pss_cons (ps_set (i := 1) scLDraws.nd rfl (.inl rfl) (pe_op op_cat (pe_lc (own := [("_law_cell", 2)]) (g := (gName 2)) (tt := tYes) rfl scLDraws.nd (piLK K (pe_slice (slLK K) (pv 0) po_none (po_some pe_int)))
      (blkOk_by (own := [("_law_cell", 2)]) (N := nLDraws) (sc := (defScope sLDraws)) (by decide +kernel))
      (fun _ _ _ _ _ => (pg_name (i := 2) scLDraws.nd rfl (Or.inl rfl))) (fun _ _ _ _ _ => pts_nil)
      (fun _ _ _ _ _ => (pe_callB call_abs (by rfl) m_abs (by decide +kernel) (pa_cons (pv 2) pa_nil)))) (pe_op op_rep (pe_lst (pa_cons pe_int pa_nil)) (pe_callTy call_int1 (by rfl) m_int (by decide +kernel) (pa_cons (pe_cmpR op_eq (pe_callB (lenK K) (by rfl) m_len (by decide +kernel) (pa_cons (pv 0) pa_nil)) pe_int (nomark _)) pa_nil)))))
    (pss_one (ps_ret (pe_lst (pa_cons (pv 1) (pa_cons pe_int (pa_cons (pe_lc (own := [("_law_cell", 2)]) (g := (gName 2)) (tt := tYes) rfl scLDraws.nd (piLK K (pv 1))
      (blkOk_by (own := [("_law_cell", 2)]) (N := nLDraws) (sc := (defScope sLDraws)) (by decide +kernel))
      (fun _ _ _ _ _ => (pg_name (i := 2) scLDraws.nd rfl (Or.inl rfl))) (fun _ _ _ _ _ => pts_nil)
      (fun _ _ _ _ _ => (pe_op op_mul (pv 2) (pe_callTy call_int1 (by rfl) m_int (by decide +kernel) (pa_cons (pe_cmpR op_ge (pv 2) (pe_op op_pow pe_int pe_int) (nomark _)) pa_nil))))) pa_nil))))))), ?_⟩
    refine ⟨.ref a, rfl, 63, rfl, a, ns.map V.int, rfl, hS, fun c nc => ?_⟩
    rw [cut63 hlen]
    refine ⟨c, rfl, ⟨_, SqL.of upd_same⟩, fun D nD => ?_⟩
    have s1 := same_upd (o := .lst (ns.map V.int)) nc
    have e1 := same_at (o := .lst (ns.map V.int)) nc
    refine lc_listI (K := K) (fun _ => true) (fun o => .int (if o < 0 then -o else o)) nD (SqL.of e1) (fun _ => rfl) (fun o _ H' R s2 hR => hR H' (Same.refl _)) (fun o _ _ H' R s2 hR => ⟨.int o, rfl, o, rfl, hR H' _ (Same.refl _) (.int _)⟩) (fun _ => only_int _) (by omega) (fun H2 ys s2 eD dy => ?_)
    rw [filt_true] at dy
    have ey : ys = (ns.map fun o => if o < 0 then -o else o).map V.int := DpAll.ints (by rw [List.map_map]; exact dy)
    subst ey
    have s12 := s1.trans s2
    refine ⟨by show 1 ≤ sizeLine; decide, fun z nz => ?_⟩
    have s3 := same_upd (o := .lst [V.int 0]) nz
    have e3 := same_at (o := .lst [V.int 0]) nz
    refine ⟨.ref a, rfl, a, ns.map V.int, rfl, .inl (Same.seq (s12.trans s3) hS), rfl, ?_⟩
    refine .inr ⟨_, rfl, ?_⟩
    obtain ⟨j, hj, hj1⟩ : ∃ j : Nat, (if decide (V.int ((ns.map V.int).length : Nat) = V.int 0) = true then (1 : Int) else 0) = (j : Int) ∧ ((j = 1 ∧ ns = []) ∨ (j = 0 ∧ ns ≠ [])) := by
      rw [decInt, List.length_map]
      by_cases h : ns = []
      · subst h
        exact ⟨1, rfl, .inl ⟨rfl, rfl⟩⟩
      · have : ¬ ((ns.length : Nat) : Int) = 0 := fun z => h (List.length_eq_zero_iff.mp (by omega))
        rw [decide_eq_false this]
        exact ⟨0, rfl, .inr ⟨rfl, h⟩⟩
    rw [hj]
    refine ⟨z, _, _, rfl, rfl, e3, by omega, by omega, ?_, fun p np => ?_⟩
    · show 1 * (j : Int).toNat ≤ sizeLine
      exact Nat.le_of_lt (small1000 (by omega))
    have s4 := same_upd (o := .lst (List.replicate (j : Int).toNat [V.int 0]).flatten) np
    have e4 := same_at (o := .lst (List.replicate (j : Int).toNat [V.int 0]).flatten) np
    have s24 := s3.trans s4
    obtain ⟨cs, ecs, pos, len, nn⟩ : ∃ cs : List Int, (ns.map fun o => if o < 0 then -o else o).map V.int ++ (List.replicate (j : Int).toNat [V.int 0]).flatten = cs.map V.int ∧ 0 < cs.length ∧ cs.length ≤ 63 ∧ ∀ z ∈ cs, 0 ≤ z := by
      rcases hj1 with ⟨rfl, rfl⟩ | ⟨rfl, h⟩
      · exact ⟨[0], rfl, by decide, by decide, fun z hz => by rw [List.mem_singleton.mp hz]; decide⟩
      · refine ⟨ns.map fun o => if o < 0 then -o else o, by simp, ?_, by rw [List.length_map]; exact hlen, fun z hz => ?_⟩
        · rw [List.length_map]
          exact List.length_pos_iff.mpr h
        · obtain ⟨y, _, rfl⟩ := List.mem_map.mp hz
          split <;> omega
    refine ⟨D, p, _, _, rfl, rfl, s24 _ _ eD, e4, ?_, fun l nl => ?_⟩
    · rw [← List.length_append, ecs, List.length_map]
      exact Nat.le_of_lt (small1000 (by omega))
    rw [ecs]
    have s5 := same_upd (o := .lst (cs.map V.int)) nl
    have e5 := same_at (o := .lst (cs.map V.int)) nl
    have s15 := (s12.trans s24).trans s5
    generalize upd _ l (.lst (cs.map V.int)) = H5 at s5 e5 s15 ⊢
    refine ⟨.ref l, rfl, .ref l, rfl, l, rfl, ⟨_, SqL.of e5⟩, fun R nR => ?_⟩
    refine lc_listI (K := K) (fun _ => true) (fun o => .int (o * if decide (o ≥ (10 : Int) ^ (18 : Int).toNat) = true then 1 else 0)) nR (SqL.of e5) (fun _ => rfl) (fun o _ H' R s2 hR => hR H' (Same.refl _)) (fun o _ _ H' R s2 hR => ?_) (fun _ => only_int _) (by omega) (fun H6 ys s6 eR dy => ?_)
    · refine ⟨.int o, rfl, .int o, rfl, 10, 18, rfl, rfl, ⟨by decide, by decide, by decide⟩, o, _, rfl, rfl, .inr ⟨_, rfl, o, _, rfl, rfl, .inr ?_, hR H' _ (Same.refl _) (.int _)⟩⟩
      split <;> exact ⟨by decide, by decide⟩
    rw [filt_true] at dy
    have ey : ys = (cs.map fun o => o * if decide (o ≥ (10 : Int) ^ (18 : Int).toNat) = true then 1 else 0).map V.int := DpAll.ints (by rw [List.map_map]; exact dy)
    subst ey
    refine ⟨by show 3 ≤ sizeLine; decide, fun d nd => ?_⟩
    have s7 := same_upd (o := .lst [V.ref l, V.int 0, V.ref R]) nd
    have nlR : l ≠ R := ne_of_none e5 nR
    refine q _ d R l ((s15.trans s6).trans s7) ⟨0, cs, _, Nat.le_refl _, upd_same, s7 _ _ (s6 _ _ e5), s7 _ _ eR, nlR, pos, by rw [List.length_map], len, nn, fun z hz => ?_⟩
    obtain ⟨y, hy, rfl⟩ := List.mem_map.mp hz
    have := nn y hy
    split
    · omega
    · omega
def spLNext : Sp := fun vs H Q _ => ∃ (d r c : Addr) (n : Nat) (m : Int), vs = [.ref d, .int m] ∧ 0 < m ∧ m < 1000000 ∧ Dw H d r c n ∧ n < 1000000 ∧
  ∀ H' x, 0 ≤ x → x < m → Fm d r H H' → Dw H' d r c (n + 1) → Q (.int x) H'
theorem ok_LNext {f : Addr} {fd : FuncData} {k : Nat} (F : Fun K "_law_next" "_law_next" sLNext f fd) (m_len : mg "len" = none) :
    FnOk P w K mg base CX0 (k + 1) f fd ["_law_state", "_law_many"] spLNext := by
  refine F.ok scLNext (fun vs H Q E h => ?_) (fun cdv A outer s H vs Q E hr h => ?_)
  · obtain ⟨d, r, c, n, m, rfl, _⟩ := h
    rfl
  · obtain ⟨d, r, c, n, m, rfl, m0, m1, hD, hn, q⟩ := h
    obtain ⟨k, cs, rs, hk, h1, h2, h3, ncr, pos, rl, cl, c0, r0⟩ := hD.ex
    have ndc : d ≠ c := ne_ints h1 h2
    have ndr : d ≠ r := ne_ints h1 h3
    refine ⟨_, (pss_cons (ps_asg (pv 0) (pgLK K (pgs_cons (pg_name (i := 2) scLNext.nd rfl (Or.inl rfl)) (pgs_cons (pg_name (i := 3) scLNext.nd rfl (Or.inl rfl)) (pgs_cons (pg_name (i := 4) scLNext.nd rfl (Or.inl rfl)) pgs_nil)))))
    (pss_cons (ps_set (i := 5) scLNext.nd rfl (.inl rfl) (pe_op op_mod (pv 3) (pe_callB (lenK K) (by rfl) m_len (by decide +kernel) (pa_cons (pv 2) pa_nil))))
    (pss_cons (ps_asg (pe_op op_add (pv 3) pe_int) (pg_sub (pv 0) pe_int set_list))
    (pss_cons (ps_if (pt_cmpR op_gt (pe_ix (ixLK K) (pv 4) (pv 5) (fun _ _ => rfl)) pe_int (nomark _)) (pss_cons (ps_set (i := 6) scLNext.nd rfl (.inl rfl) (pe_op op_mod (pe_ix (ixLK K) (pv 4) (pv 5) (fun _ _ => rfl)) (pv 1)))
    (pss_cons (ps_asg (pe_op op_fdiv (pe_ix (ixLK K) (pv 4) (pv 5) (fun _ _ => rfl)) (pv 1)) (pg_sub (pv 4) (pv 5) set_list))
    (pss_one (ps_ret (pv 6))))) pss_nil)
    (pss_cons (ps_set (i := 7) scLNext.nd rfl (.inl rfl) (pe_op op_mod (pe_op op_pow (pe_op op_add (pe_op op_add (pe_op op_mod (pe_ix (ixLK K) (pv 2) (pv 5) (fun _ _ => rfl)) pe_int) (pe_op op_mul pe_int (pv 3))) pe_int) pe_int) pe_int))
    (pss_cons (ps_set (i := 7) scLNext.nd rfl (.inl rfl) (pe_op op_mod (pe_op op_pow (pe_op op_add (pe_op op_add (pv 7) (pe_op op_mul (pe_op op_mul pe_int (pv 3)) (pv 3))) pe_int) pe_int) pe_int))
    (pss_one (ps_ret (pe_op op_mod (pe_op op_fdiv (pe_op op_mod (pe_op op_mul (pv 7) pe_int) pe_int) pe_int) (pv 1)))))))))), ?_⟩
    refine ⟨.ref d, rfl, d, _, rfl, SqL.of h1, rfl, _, _, rfl, _, _, rfl, _, _, rfl, rfl, ?_⟩
    -- index
    refine ⟨.int (k : Int), rfl, .ref c, rfl, c, cs.map V.int, rfl, .inl (SqL.of h2), _, _, rfl, rfl, by rw [List.length_map]; omega, ?_⟩
    obtain ⟨i0, i1⟩ := modIn (x := (k : Int)) (m := (((cs.map V.int).length : Nat) : Int)) (by rw [List.length_map]; omega)
    obtain ⟨j, hj⟩ : ∃ j : Nat, (k : Int) % (((cs.map V.int).length : Nat) : Int) = (j : Int) := ⟨((k : Int) % (((cs.map V.int).length : Nat) : Int)).toNat, by omega⟩
    dsimp only [gName]
    rw [hj] at i1 ⊢
    rw [List.length_map] at i1
    have hjc : j < cs.length := by omega
    have hjr : j < rs.length := by omega
    -- state[1]
    refine ⟨.int (k : Int), rfl, _, _, rfl, rfl, .ref d, rfl, d, _, 1, 1, rfl, rfl, h1, rfl, ?_⟩
    have e1 : (upd H d (.lst ([V.ref c, V.int (k : Int), V.ref r].set 1 (.int ((k : Int) + 1))))) d = some (.lst [V.ref c, V.int ((k + 1 : Nat) : Int), V.ref r]) := upd_same
    have e2 : (upd H d (.lst ([V.ref c, V.int (k : Int), V.ref r].set 1 (.int ((k : Int) + 1))))) c = some (.lst (cs.map V.int)) := by rw [upd_ne ndc.symm]; exact h2
    have e3 : (upd H d (.lst ([V.ref c, V.int (k : Int), V.ref r].set 1 (.int ((k : Int) + 1))))) r = some (.lst (rs.map V.int)) := by rw [upd_ne ndr.symm]; exact h3
    have f1 : Fm d r H (upd H d (.lst ([V.ref c, V.int (k : Int), V.ref r].set 1 (.int ((k : Int) + 1))))) := fun b o n1 n2 e => by rw [upd_ne n1]; exact e
    generalize upd H d (.lst ([V.ref c, V.int (k : Int), V.ref r].set 1 (.int ((k : Int) + 1)))) = H1 at e1 e2 e3 f1 ⊢
    have gr : (rs.map V.int)[j]? = some (.int rs[j]) := by rw [List.getElem?_map, List.getElem?_eq_getElem hjr]; rfl
    have gc : (cs.map V.int)[j]? = some (.int cs[j]) := by rw [List.getElem?_map, List.getElem?_eq_getElem hjc]; rfl
    have z0 : 0 ≤ rs[j] := r0 _ (List.getElem_mem hjr)
    generalize hz : rs[j] = z at gr z0
    generalize cs[j] = y at gc
    refine ⟨.ref r, rfl, .int (j : Int), rfl, r, _, _, .int z, rfl, rfl, SqL.of e3, at_of rfl gr, _, _, rfl, rfl, _, rfl, ite2 (fun hp => ?_) (fun hp => ?_)⟩
    · refine ⟨.ref r, rfl, .int (j : Int), rfl, r, _, _, .int z, rfl, rfl, SqL.of e3, at_of rfl gr, .int m, rfl, z, m, rfl, rfl, m0, ?_⟩
      refine ⟨.ref r, rfl, .int (j : Int), rfl, r, _, _, .int z, rfl, rfl, SqL.of e3, at_of rfl gr, .int m, rfl, z, m, rfl, rfl, ⟨m0, by omega⟩, .ref r, rfl, .int (j : Int), rfl, r, _, _, j, rfl, rfl, e3, ?_, ?_⟩
      · unfold ixN
        rw [if_pos (by omega), if_pos (by rw [List.length_map]; omega)]
        simp
      refine ⟨_, rfl, ?_⟩
      obtain ⟨x0, x1⟩ := modIn (x := z) m0
      refine q _ _ x0 x1 (fun b o n1 n2 e => ?_) ⟨k + 1, cs, rs.set j (z / m), by omega, ?_, ?_, ?_, ncr, pos, by rw [List.length_set]; exact rl, cl, c0, fun u hu => ?_⟩
      · rw [upd_ne n2]
        exact f1 b o n1 n2 e
      · rw [upd_ne ndr]
        exact e1
      · rw [upd_ne ncr]
        exact e2
      · rw [upd_same, List.map_set]
      · rcases List.mem_or_eq_of_mem_set hu with hu | rfl
        · exact r0 u hu
        · exact Int.ediv_nonneg z0 (by omega)
    · have b1 := modIn (x := y) (m := 2147483629) (by decide)
      refine ⟨.ref c, rfl, .int (j : Int), rfl, c, _, _, .int y, rfl, rfl, SqL.of e2, at_of rfl gc, y, 2147483629, rfl, rfl, (by show (0 : Int) < 2147483629; decide), .int (k : Int), rfl, 40031, _, rfl, rfl, .inl ⟨by decide, by decide⟩,
        _, _, rfl, rfl, _, _, rfl, rfl, _, _, rfl, rfl, ⟨by decide, by decide, ?_⟩, _, _, rfl, rfl, (by show (0 : Int) < 2147483587; decide), ?_⟩
      · omega
      dsimp only [gName]
      generalize hx1 : (y % 2147483629 + 40031 * (k : Int) + 8011) ^ (3 : Int).toNat % 2147483587 = x1
      have b2 : 0 ≤ x1 ∧ x1 < 2147483587 := by rw [← hx1]; exact modIn (by decide)
      have kk : (5021 : Int) * k * k ≤ 5021 * 1000000 * 1000000 := by
        have k0 : (0 : Int) ≤ k := by omega
        have k1 : (k : Int) ≤ 1000000 := by omega
        have a1 : (5021 : Int) * k ≤ 5021 * 1000000 := by omega
        exact Int.le_trans (Int.mul_le_mul_of_nonneg_right a1 k0) (Int.mul_le_mul_of_nonneg_left k1 (by decide))
      have kk0 : (0 : Int) ≤ 5021 * k * k := Int.mul_nonneg (by omega) (by omega)
      refine ⟨.int x1, rfl, .int (k : Int), rfl, 5021, _, rfl, rfl, .inl ⟨by decide, by decide⟩, .int (k : Int), rfl, _, _, rfl, rfl, .inl ⟨by omega, by omega⟩, _, _, rfl, rfl, _, _, rfl, rfl, _, _, rfl, rfl, ⟨by decide, by decide, by omega⟩, _, _, rfl, rfl, (by show (0 : Int) < 2147483563; decide), ?_⟩
      dsimp only [gName]
      generalize (x1 + 5021 * (k : Int) * (k : Int) + 41) ^ (3 : Int).toNat % 2147483563 = x2
      refine ⟨.int x2, rfl, _, _, rfl, rfl, .inr ⟨by decide, by decide⟩, _, _, rfl, rfl, (by show (0 : Int) < 2305843009213693951; decide), _, _, rfl, rfl, (by show (0 : Int) < 8 ∧ (8 : Int) < 1073741824; decide), .int m, rfl, _, m, rfl, rfl, m0, ?_⟩
      obtain ⟨w0, w1⟩ := modIn (x := x2 * 65537 % 2305843009213693951 / 8) m0
      exact q _ _ w0 w1 f1 ⟨k + 1, cs, rs, by omega, e1, e2, e3, ncr, pos, rl, cl, c0, r0⟩
/-! ### shuffled: a list in another order -/
def spLShuffled (K : PySem.W.Frag) : Sp := fun vs H Q _ => ∃ (d r c a : Addr) (n : Nat) (ns : List Int), vs = [.ref d, .ref a] ∧ Dw H d r c n ∧ n < 900000 ∧
  SqL K H a (ns.map V.int) ∧ ns.length ≤ 100 ∧
  ∀ (H' : Hp) (D : Addr) (ms : List Int), ms.Perm ns → Fm d r H H' → Dw H' d r c (n + ns.length) → H D = none → H' D = some (.lst (ms.map V.int)) → Q (.ref D) H'
theorem ok_LShuffled {f : Addr} {fd : FuncData} (F : Fun K "_law_shuffled" "_law_shuffled" sLShuffled f fd) (m_list : mg "list" = none) (m_len : mg "len" = none)
    (oLNext : Own P w K mg base "_law_next" 1 ["_law_state", "_law_many"] spLNext) :
    FnOk P w K mg base CX0 2 f fd ["_law_state", "_law_items"] (spLShuffled K) := by
  refine F.ok scLShuffled (fun vs H Q E h => ?_) (fun cdv A outer s H vs Q E hr h => ?_)
  · obtain ⟨d, r, c, a, n, ns, rfl, _⟩ := h
    rfl
  · obtain ⟨d, r, c, a, n, ns, rfl, hD, hn, hS, hl, q⟩ := h
    refine ⟨_, (pss_cons (ps_par (by rfl) scLShuffled.nd (i := 2) (j := 3) rfl rfl (by decide) rfl rfl (pa_cons (pe_callTy (listK K) (by rfl) m_list (by decide +kernel) (pa_cons (pv 1) pa_nil)) (pa_cons (pe_lst pa_nil) pa_nil)) (by rfl))
    (pss_cons (ps_while PassesOwn.never (pt_cmpR (neDK K hr.units) (pv 2) (pe_lst pa_nil) (nomark _)) (pss_one (ps_expr (bmK K PySem.F.plainAttrs_list PySem.F.slot_list_append PySem.F.type_list_append mt_append (pv 3) (pa_cons (bmK K PySem.F.plainAttrs_list PySem.F.slot_list_pop PySem.F.type_list_pop mt_popAt (pv 2) (pa_cons (pe_own oLNext (hr.mono (by decide)) (by rfl) (pa_cons (pv 0) (pa_cons (pe_callB (lenK K) (by rfl) m_len (by decide +kernel) (pa_cons (pv 2) pa_nil)) pa_nil))) pa_nil)) pa_nil)))))
    (pss_one (ps_ret (pv 3))))), ?_⟩
    refine ⟨.ref a, rfl, a, ns.map V.int, rfl, .inl hS, fun L nL => ?_⟩
    have s1 := same_upd (o := .lst (ns.map V.int)) nL
    refine ⟨Nat.zero_le _, fun D nD => ⟨.ref L, .ref D, rfl, ?_⟩⟩
    have nHD : H D = none := s1.free nD
    have nLD : L ≠ D := ne_of_none upd_same nD
    have offL := hD.off nL
    have offD := hD.off nHD
    have s2 := same_upd (o := .lst []) nD
    refine while_ms (fun t σ H' => ∃ (ms rs : List Int), σ = [some (.ref d), some (.ref a), some (.ref L), some (.ref D)] ∧ (ms ++ rs).Perm ns ∧ t = rs.length ∧ Fm d r H H' ∧ Dw H' d r c (n + ms.length) ∧
      H' L = some (.lst (rs.map V.int)) ∧ H' D = some (.lst (ms.map V.int))) ns.length ⟨[], ns, rfl, List.Perm.refl _, rfl, Same.fm (s1.trans s2), hD.same (s1.trans s2), s2 _ _ upd_same, upd_same⟩ ?_ ?_
    · rintro t σ H2 ⟨ms, rs, rfl, pm, rfl, f2, d2, eL, eD⟩
      have er : ms.length + rs.length = ns.length := by
        have := pm.length_eq
        rw [List.length_append] at this
        exact this
      refine ⟨.ref L, rfl, Nat.zero_le _, fun e ne => ?_⟩
      have se := same_upd (o := .lst []) ne
      refine ⟨.list (rs.map .int), .list [], .lst (SqL.of (se _ _ eL)) (DpAll.of_ints rs), .lst (SqL.of upd_same) .nil, shaped_ints rs, shaped_ints [], _, rfl, ?_⟩
      rw [eqv_nil]
      by_cases hr0 : rs = []
      · subst hr0
        rw [decide_eq_true rfl]
        refine iteF ⟨.ref D, rfl, ?_⟩
        rw [List.append_nil] at pm
        rw [pm.length_eq] at d2
        exact q _ D ms pm (f2.trans (Same.fm se)) (d2.same se) nHD (se _ _ eD)
      · rw [decide_eq_false hr0]
        have hp : 0 < rs.length := List.length_pos_iff.mpr hr0
        refine iteT ?_
        have eL2 := se _ _ eL
        have eD2 := se _ _ eD
        refine ⟨.ref D, rfl, .inl ⟨rfl, _, SqL.of eD2⟩, .ref L, rfl, .inl ⟨rfl, _, SqL.of eL2⟩, .ref d, rfl, .ref L, rfl, L, _, rfl, .inl (SqL.of eL2), d, r, c, _, _, rfl, by rw [List.length_map]; omega, by rw [List.length_map]; omega, d2.same se, by omega, fun H3 x x0 x1 f3 d3 => ?_⟩
        rw [List.length_map] at x1
        have eL3 := f3 _ _ offL.1 offL.2.1 eL2
        have eD3 := f3 _ _ offD.1 offD.2.1 eD2
        have hk : x.toNat < rs.length := by omega
        refine ⟨L, _, x, x.toNat, .int rs[x.toNat], rfl, rfl, eL3, by omega, by omega, ?_, ?_, D, ms.map V.int, _, rfl, rfl, ?_, ?_, (rs.eraseIdx x.toNat).length, ?_, ms ++ [rs[x.toNat]], rs.eraseIdx x.toNat, rfl, ?_, rfl, ?_, ?_, ?_, ?_⟩
        · unfold seqIndex?
          rw [List.length_map]
          simp
          omega
        · rw [List.getElem?_map, List.getElem?_eq_getElem hk]
          rfl
        · rw [upd_ne nLD.symm]
          exact eD3
        · rw [List.length_map]
          exact small1000 (by omega)
        · rw [List.length_eraseIdx_of_lt hk]
          omega
        · rw [List.append_assoc]
          refine List.Perm.trans ?_ pm
          exact List.Perm.append_left ms (erase_prm hk)
        · exact (((f2.trans (Same.fm se)).trans f3).put1 nL).put1 nHD
        · rw [List.length_append]
          exact (d3.put offL).put offD
        · rw [upd_ne nLD, upd_same]
          exact congrArg (fun z => some (HO.lst z)) (erase_mp rs x.toNat)
        · rw [upd_same, List.map_append]
          rfl
    · rintro σ H' Q1 Q2 hQ ⟨v, e, h0, h⟩
      refine ⟨v, e, h0, fun p np => ?_⟩
      obtain ⟨d, e', h1, h2, h3, h4, k, hk, h5⟩ := h p np
      exact ⟨d, e', h1, h2, h3, h4, k, hk, hQ _ _ h5⟩
/-! ### forest -/
theorem ord_min (a b : Int) : (if a < b then a else b) = (ordP a b).1 := by
  unfold ordP
  by_cases h : a ≤ b
  · rw [if_pos h]
    show _ = a
    split <;> omega
  · rw [if_neg h, if_neg (by omega)]
theorem ord_max (a b : Int) : (if a > b then a else b) = (ordP a b).2 := by
  unfold ordP
  by_cases h : a ≤ b
  · rw [if_pos h, if_neg (by omega)]
  · rw [if_neg h, if_pos (by omega)]
def spLForest (K : PySem.W.Frag) : Sp := fun vs H Q _ => ∃ (d r c : Addr) (n least most : Nat), vs = [.ref d, .int (least : Int), .int (most : Int)] ∧ least ≤ most ∧ most ≤ 12 ∧ Dw H d r c n ∧ n < 800000 ∧
  ∀ (H' : Hp) (x : V) (m : Nat) (es : List (Int × Int)), Fm d r H H' → Dw H' d r c (n + 60) → least ≤ m → m ≤ most → IsFor m es → Dp K H' x (forD m es) → Q x H'
theorem ok_LForest {f : Addr} {fd : FuncData} (F : Fun K "_law_forest" "_law_forest" sLForest f fd) (m_list : mg "list" = none) (m_range : mg "range" = none)
    (m_max : mg "max" = none) (m_min : mg "min" = none) (m_tuple : mg "tuple" = none) (m_sorted : mg "sorted" = none)
    (oLNext : Own P w K mg base "_law_next" 1 ["_law_state", "_law_many"] spLNext) (oLShuffled : Own P w K mg base "_law_shuffled" 2 ["_law_state", "_law_items"] (spLShuffled K)) :
    FnOk P w K mg base CX0 3 f fd ["_law_state", "_law_least", "_law_most"] (spLForest K) := by
  refine F.ok scLForest (fun vs H Q E h => ?_) (fun cdv A outer s H vs Q E hr h => ?_)
  · obtain ⟨d, r, c, n, least, most, rfl, _⟩ := h
    rfl
  · obtain ⟨d, r, c, n, least, most, rfl, hlm, hm, hD, hn, q⟩ := h
    refine ⟨_, (pss_cons (ps_set (i := 3) scLForest.nd rfl (.inl rfl) (pe_op op_add (pv 1) (pe_own oLNext (hr.mono (by decide)) (by rfl) (pa_cons (pv 0) (pa_cons (pe_op op_add (pe_op op_sub (pv 2) (pv 1)) pe_int) pa_nil)))))
    (pss_cons (ps_par (by rfl) scLForest.nd (i := 4) (j := 5) rfl rfl (by decide) rfl rfl (pa_cons (pe_own oLShuffled (hr.mono (by decide)) (by rfl) (pa_cons (pv 0) (pa_cons (pe_listRg rfl (by rfl) m_list (prg_1 (by rfl) m_range (pv 3))) pa_nil))) (pa_cons (pe_lst pa_nil) pa_nil)) (by rfl))
    (pss_cons (ps_par (by rfl) scLForest.nd (i := 6) (j := 7) rfl rfl (by decide) rfl rfl (pa_cons (pe_own oLNext (hr.mono (by decide)) (by rfl) (pa_cons (pv 0) (pa_cons pe_int pa_nil))) (pa_cons (pe_ix (ixLK K) (pe_lst (pa_cons pe_int (pa_cons pe_int (pa_cons pe_int pa_nil)))) (pe_own oLNext (hr.mono (by decide)) (by rfl) (pa_cons (pv 0) (pa_cons pe_int pa_nil))) (fun _ _ => rfl)) pa_nil)) (by rfl))
    (pss_cons (ps_for PassesOwn.never rfl (pi_range2 (by rfl) m_range (pa_cons pe_int (pa_cons (pv 3) pa_nil))) (pg_name (i := 8) scLForest.nd rfl (Or.inl rfl))
    (pss_cons (ps_set (i := 9) scLForest.nd rfl (.inl rfl) (pe_ix (ixLK K) (pv 4) (pe_ix (ixLK K) (pe_lst (pa_cons (pe_op op_sub (pv 8) pe_int) (pa_cons pe_int (pa_cons (pe_own oLNext (hr.mono (by decide)) (by rfl) (pa_cons (pv 0) (pa_cons (pv 8) pa_nil))) (pa_cons (pe_callB (call_max2 rfl) (by rfl) m_max (by decide +kernel) (pa_cons pe_int (pa_cons (pe_op op_sub (pe_op op_sub (pv 8) pe_int) (pe_own oLNext (hr.mono (by decide)) (by rfl) (pa_cons (pv 0) (pa_cons pe_int pa_nil)))) pa_nil))) pa_nil))))) (pv 6) (fun _ _ => rfl)) (fun _ _ => rfl)))
    (pss_one (ps_if (PW.pt (pw_or (pt_cmpR op_eq (pv 7) pe_int (nomark _)) (pw_or1 (pt_cmpR op_gt (pe_own oLNext (hr.mono (by decide)) (by rfl) (pa_cons (pv 0) (pa_cons (pv 7) pa_nil))) pe_int (nomark _))))) (pss_one (ps_expr (bmK K PySem.F.plainAttrs_list PySem.F.slot_list_append PySem.F.type_list_append mt_append (pv 5) (pa_cons (pe_tup (pa_cons (pe_callB (call_min2 rfl) (by rfl) m_min (by decide +kernel) (pa_cons (pv 9) (pa_cons (pe_ix (ixLK K) (pv 4) (pv 8) (fun _ _ => rfl)) pa_nil))) (pa_cons (pe_callB (call_max2 rfl) (by rfl) m_max (by decide +kernel) (pa_cons (pv 9) (pa_cons (pe_ix (ixLK K) (pv 4) (pv 8) (fun _ _ => rfl)) pa_nil))) pa_nil))) pa_nil)))) pss_nil))))
    (pss_one (ps_ret (pe_tup (pa_cons (pv 3) (pa_cons (pe_callTy (tupleK K) (by rfl) m_tuple (by decide +kernel) (pa_cons (pe_callB (sortK K hr.units) (by rfl) m_sorted (by decide +kernel) (pa_cons (pv 5) pa_nil)) pa_nil)) pa_nil))))))))), ?_⟩
    -- n
    refine ⟨.int (least : Int), rfl, .ref d, rfl, .int (most : Int), rfl, .int (least : Int), rfl, _, _, rfl, rfl, _, _, rfl, rfl, d, r, c, n, _, rfl, by omega, by omega, hD, by omega, fun H1 x x0 x1 f1 d1 => ⟨_, _, rfl, rfl, ?_⟩⟩
    obtain ⟨m, hmx⟩ : ∃ m : Nat, (least : Int) + x = (m : Int) := ⟨((least : Int) + x).toNat, by omega⟩
    dsimp only [gName]
    rw [hmx]
    have hmm : least ≤ m ∧ m ≤ most := by omega
    -- order, edges
    refine ⟨.ref d, rfl, .int (m : Int), rfl, (m : Int), rfl, RgOk.of_le (by omega) (by omega) (by omega) (by omega), fun z nz => ?_⟩
    rw [rgVrng]
    have sz := same_upd (o := .lst ((rng m).map V.int)) nz
    refine ⟨d, r, c, z, _, rng m, rfl, d1.same sz, by omega, SqL.of upd_same, by rw [rng_length]; omega, fun H2 D nm pm f2 d2 nD eD => ?_⟩
    rw [rng_length] at d2
    have f12 : Fm d r H H2 := (f1.trans (Same.fm sz)).trans f2
    have offD := (d1.same sz).off nD
    refine ⟨Nat.zero_le _, fun E nE => ⟨.ref D, .ref E, rfl, ?_⟩⟩
    have offE := d2.off nE
    have nDE : D ≠ E := ne_of_none eD nE
    have sE := same_upd (o := .lst []) nE
    have eE := same_at (o := .lst []) nE
    -- kind, lack
    refine ⟨.ref d, rfl, d, r, c, _, 4, rfl, by decide, by decide, d2.same sE, by omega, fun H3 w3 w0 w1 f3 d3 => ?_⟩
    refine ⟨by show 3 ≤ sizeLine; decide, fun p np => ?_⟩
    have sp := same_upd (o := .lst [V.int 0, V.int 0, V.int 4]) np
    have ep := same_at (o := .lst [V.int 0, V.int 0, V.int 4]) np
    have offp := d3.off np
    refine ⟨.ref d, rfl, d, r, c, _, 3, rfl, by decide, by decide, d3.same sp, by omega, fun H4 t' t0 t1 f4 d4 => ?_⟩
    obtain ⟨t, ht, hti⟩ : ∃ t : Int, atI [V.int 0, V.int 0, V.int 4] t' = some (V.int t) ∧ (t = 0 ∨ t = 4) := by
      have h3 : t' = 0 ∨ t' = 1 ∨ t' = 2 := by omega
      rcases h3 with rfl | rfl | rfl
      · exact ⟨0, rfl, .inl rfl⟩
      · exact ⟨0, rfl, .inl rfl⟩
      · exact ⟨4, rfl, .inr rfl⟩
    refine ⟨p, _, _, .int t, rfl, rfl, SqL.of (f4 _ _ offp.1 offp.2.1 ep), ht, .int w3, .int t, rfl, ?_⟩
    have f24 : Fm d r H2 H4 := ((Same.fm sE).trans f3).trans ((Same.fm sp).trans f4)
    have eD4 := f24 _ _ offD.1 offD.2.1 eD
    have eE4 := f4 _ _ offE.1 offE.2.1 (sp _ _ (f3 _ _ offE.1 offE.2.1 eE))
    have f14 := f12.trans f24
    refine ⟨.int (m : Int), rfl, 1, (m : Int), rfl, ⟨by omega, by omega, by omega, by omega⟩, for_range (lo := 1) (n := ((m : Int) - 1).toNat) (fun i σ H' => ∃ (y8 y9 : Option V) (ks : List (Nat × Nat)) (xs : List V),
      σ = [some (.ref d), some (.int (least : Int)), some (.int (most : Int)), some (.int (m : Int)), some (.ref D), some (.ref E), some (.int w3), some (.int t), y8, y9] ∧ Fm d r H2 H' ∧ Dw H' d r c (n + 20 + 3 * i) ∧
      H' D = some (.lst (nm.map V.int)) ∧ H' E = some (.lst xs) ∧ DpAll K H' xs ((ks.map (edgeOf nm)).map prD) ∧ ks.Pairwise (fun a b => a.1 < b.1) ∧ (∀ q ∈ ks, q.2 < q.1 ∧ q.1 < i + 1) ∧ ks.length ≤ i) ?_ ?_ ?_⟩
    · exact ⟨none, none, [], [], rfl, f24, d4.le (by omega), eD4, eE4, .nil, .nil, (fun _ z => nomatch z), Nat.le_refl _⟩
    · rintro i σ H5 hi ⟨y8, y9, ks, xs, rfl, f5, d5, eD5, eE5, a5, up, down, cnt⟩
      have hi' : i + 1 < m := by omega
      have lnm : nm.length = m := by rw [pm.length_eq, rng_length]
      -- on
      refine ⟨.ref D, rfl, .int (1 + (i : Int)), rfl, _, _, rfl, rfl, .ref d, rfl, .int (1 + (i : Int)), rfl, d, r, c, _, _, rfl, by omega, by omega, d5, by omega, fun H6 x x0 x1 f6 d6 => ?_⟩
      refine ⟨.int (1 + (i : Int)), rfl, _, _, rfl, rfl, .ref d, rfl, d, r, c, _, 3, rfl, by decide, by decide, d6, by omega, fun H7 y y0 y1 f7 d7 => ⟨_, _, rfl, rfl, 0, _, rfl, by show 4 ≤ sizeLine; decide, fun p6 np6 => ?_⟩⟩
      have sp6 := same_upd (o := .lst [.int (1 + (i : Int) - 1), .int 0, .int x, .int (if 1 + (i : Int) - 1 - y > 0 then 1 + (i : Int) - 1 - y else 0)]) np6
      obtain ⟨o, ho, lo⟩ : ∃ o : Nat, atI [V.int (1 + (i : Int) - 1), V.int 0, V.int x, V.int (if 1 + (i : Int) - 1 - y > 0 then 1 + (i : Int) - 1 - y else 0)] w3 = some (V.int (o : Int)) ∧ o < i + 1 := by
        have h4 : w3 = 0 ∨ w3 = 1 ∨ w3 = 2 ∨ w3 = 3 := by omega
        rcases h4 with rfl | rfl | rfl | rfl
        · exact ⟨i, by show some (V.int (1 + (i : Int) - 1)) = _; congr 2; omega, by omega⟩
        · exact ⟨0, rfl, by omega⟩
        · exact ⟨x.toNat, by show some (V.int x) = _; congr 2; omega, by omega⟩
        · refine ⟨(1 + (i : Int) - 1 - y).toNat, ?_, by omega⟩
          show some (V.int (if 1 + (i : Int) - 1 - y > 0 then 1 + (i : Int) - 1 - y else 0)) = _
          congr 2
          split <;> omega
      have go : (nm.map V.int)[o]? = some (.int (nm.getD o 0)) := by
        rw [List.getElem?_map, List.getD_eq_getElem?_getD, List.getElem?_eq_getElem (by omega)]
        rfl
      have gk : (nm.map V.int)[i + 1]? = some (.int (nm.getD (i + 1) 0)) := by
        rw [List.getElem?_map, List.getD_eq_getElem?_getD, List.getElem?_eq_getElem (by omega)]
        rfl
      have f67 := f6.trans f7
      have eD6 := sp6 _ _ (f67 _ _ offD.1 offD.2.1 eD5)
      have eE6 := sp6 _ _ (f67 _ _ offE.1 offE.2.1 eE5)
      refine ⟨.int w3, rfl, p6, _, _, _, rfl, rfl, SqL.of upd_same, ho, D, _, _, _, rfl, rfl, SqL.of eD6, at_of (j := o) rfl go, ?_⟩
      have d6' := d7.same sp6
      have f6' : Fm d r H2 _ := (f5.trans f67).trans (Same.fm sp6)
      have k6 : KT K H5 _ := (f67.ktw d5).trans (Same.kt sp6)
      have a6 := DpAll.kt k6 a5 (only_prs _)
      generalize upd H7 p6 (.lst [.int (1 + (i : Int) - 1), .int 0, .int x, .int (if 1 + (i : Int) - 1 - y > 0 then 1 + (i : Int) - 1 - y else 0)]) = H8 at eD6 eE6 d6' f6' a6 ⊢
      dsimp only [gName]
      refine ifJ (R := fun b H9 => Fm d r H8 H9 ∧ Dw H9 d r c (n + 20 + 3 * (i + 1))) (fun R hR => ?_) (fun H9 hR => ?_) (fun H9 hR => ?_)
      · refine ⟨.int t, rfl, rfl, _, rfl, ?_⟩
        rw [decInt]
        rcases hti with rfl | rfl
        · rw [decide_eq_true rfl]
          exact iteT (hR _ _ ⟨Fm.refl, d6'.le (by omega)⟩)
        · rw [decide_eq_false (by decide)]
          refine iteF ⟨.ref d, rfl, .int 4, rfl, d, r, c, _, 4, rfl, by decide, by decide, d6', by omega, fun H9 y y0 y1 f9 d9 => ⟨_, _, rfl, rfl, _, rfl, hR _ _ ⟨f9, d9.le (by omega)⟩⟩⟩
      · obtain ⟨f9, d9⟩ := hR
        have eD9 := f9 _ _ offD.1 offD.2.1 eD6
        have eE9 := f9 _ _ offE.1 offE.2.1 eE6
        have a9 := DpAll.kt (f9.ktw d6') a6 (only_prs _)
        refine ⟨.ref E, rfl, .inl ⟨rfl, _, SqL.of eE9⟩, .int (nm.getD o 0), rfl, .ref D, rfl, .int (1 + (i : Int)), rfl, D, _, _, _, rfl, rfl, SqL.of eD9, at_of (j := i + 1) (by omega) gk, _, _, rfl,
          .int (nm.getD o 0), rfl, .ref D, rfl, .int (1 + (i : Int)), rfl, D, _, _, _, rfl, rfl, SqL.of eD9, at_of (j := i + 1) (by omega) gk, _, _, rfl, by show 2 ≤ sizeLine; decide, fun p3 np3 => ?_⟩
        dsimp only
        rw [ord_min, ord_max]
        have s3 := same_upd (o := .tup [V.int (ordP (nm.getD (i + 1) 0) (nm.getD o 0)).1, V.int (ordP (nm.getD (i + 1) 0) (nm.getD o 0)).2]) np3
        have eE10 := s3 _ _ eE9
        have eD10 := s3 _ _ eD9
        have a10 := DpAll.same s3 a9
        have d10 := d9.same s3
        have f10 := (f6'.trans f9).trans (Same.fm s3)
        have hp : SqT K _ p3 [.int (edgeOf nm (i + 1, o)).1, .int (edgeOf nm (i + 1, o)).2] := SqT.of (K := K) (same_at (o := .tup [V.int (ordP (nm.getD (i + 1) 0) (nm.getD o 0)).1, V.int (ordP (nm.getD (i + 1) 0) (nm.getD o 0)).2]) np3)
        generalize upd _ p3 (.tup [V.int (ordP (nm.getD (i + 1) 0) (nm.getD o 0)).1, V.int (ordP (nm.getD (i + 1) 0) (nm.getD o 0)).2]) = H10 at eE10 eD10 a10 d10 f10 hp ⊢
        have kt : KT K H10 (upd H10 E (.lst (xs ++ [.ref p3]))) := kt_lst eE10
        refine ⟨E, xs, .ref p3, rfl, rfl, eE10, ?_, _, _, ks ++ [(i + 1, o)], xs ++ [.ref p3], rfl, ?_, d10.put offE, by rw [upd_ne nDE]; exact eD10, upd_same, ?_, ?_, ?_, ?_⟩
        · have := DpAll.length a10
          rw [List.length_map, List.length_map] at this
          exact small1000 (by omega)
        · exact f10.put1 nE
        · rw [List.map_append, List.map_append]
          exact DpAll.append (DpAll.kt kt a10 (only_prs _)) (.cons (Dp.kt kt (Dp.pr hp) (only_pr _)) .nil)
        · refine List.pairwise_append.mpr ⟨up, List.pairwise_singleton _ _, fun a ha b hb => ?_⟩
          obtain rfl := List.mem_singleton.mp hb
          have := (down a ha).2
          exact this
        · intro z hz
          rcases List.mem_append.mp hz with hz | hz
          · have := down z hz
            omega
          · obtain rfl := List.mem_singleton.mp hz
            exact ⟨lo, Nat.lt_succ_self _⟩
        · rw [List.length_append, List.length_singleton]
          omega
      · obtain ⟨f9, d9⟩ := hR
        exact ⟨_, _, ks, xs, rfl, f6'.trans f9, d9, f9 _ _ offD.1 offD.2.1 eD6, f9 _ _ offE.1 offE.2.1 eE6, DpAll.kt (f9.ktw d6') a6 (only_prs _), up, fun z hz => by have := down z hz; omega, by omega⟩
    · rintro σ H5 ⟨y8, y9, ks, xs, rfl, f5, d5, eD5, eE5, a5, up, down, cnt⟩
      have g : Grow m nm ks := ⟨pm, up, fun z hz => by have := down z hz; omega⟩
      refine ⟨.int (m : Int), rfl, .ref E, rfl, sortPairs (SqL.of eE5) a5 fun p ys np dy => ?_⟩
      have s1 := same_upd (o := .lst ys) np
      refine ⟨p, ys, rfl, .inl ⟨SqL.of upd_same, fun t nt => ?_⟩⟩
      have s2 := same_upd (o := .tup ys) nt
      refine ⟨by show 2 ≤ sizeLine; decide, fun z nz => ?_⟩
      have s3 := same_upd (o := .tup [.int (m : Int), .ref t]) nz
      have s13 := (s1.trans s2).trans s3
      refine q _ _ m _ ((f12.trans f5).trans (Same.fm s13)) ((d5.same s13).le (by omega)) hmm.1 hmm.2 g.isFor ?_
      exact .tup (SqT.of upd_same) (.cons (.int _) (.cons (Dp.same s3 (.tup (SqT.of upd_same) (DpAll.same (s1.trans s2) dy))) .nil))
end
end TL
namespace TL
open PySem PySem.Spec PyProof.Rows L2
section
variable {P : Program} {w : World} {K : PySem.W.Frag} {mg : Str → Option Value} {base : Heap}
def pV : Option Int → V
  | none => .non
  | some z => .int z
/-! ### the program: neighbours, lamps in the way -/
def spNeighboursOf (K : PySem.W.Frag) : Sp := fun vs H Q _ => ∃ (x : V) (m : Nat) (es : List (Int × Int)) (v : Int), vs = [x, .int v] ∧ m ≤ 12 ∧ IsFor m es ∧ Dp K H x (forD m es) ∧
  ∀ (H' : Hp) (y : V), Same H H' → Dp K H' y (intsD (nearL m es v)) → Q y H'
theorem dec_int (a b : Int) : decide (V.int a = V.int b) = decide (a = b) := by
  by_cases h : a = b
  · subst h; simp
  · have : ¬ V.int a = V.int b := fun z => h (V.int.inj z)
    rw [decide_eq_false h, decide_eq_false this]
theorem ok_NeighboursOf {f : Addr} {fd : FuncData} {k : Nat} (F : Fun K "neighbours_of" "neighbours_of" sNeighboursOf f fd) (m_tuple : mg "tuple" = none) :
    FnOk P w K mg base CX0 (k + 1) f fd ["forest", "vertex"] (spNeighboursOf K) := by
  refine F.ok scNeighboursOf (fun vs H Q E h => ?_) (fun cdv A outer s H vs Q E hr h => ?_)
  · obtain ⟨x, m, es, v, rfl, _⟩ := h
    rfl
  · obtain ⟨x, m, es, v, rfl, hm, isf, hx, q⟩ := h
    obtain ⟨a, b, xs, rfl, ha, hb, hA⟩ := Dp.forI hx
    have ec := isf.count
    refine ⟨_, (pss_cons (ps_asg (pv 0) (pgTK K (pgs_cons (pg_name (i := 2) scNeighboursOf.nd rfl (Or.inl rfl)) (pgs_cons (pg_name (i := 3) scNeighboursOf.nd rfl (Or.inl rfl)) pgs_nil))))
    (pss_cons (ps_setLc (i := 4) (own := [("a", 6), ("b", 7)]) (g := (gTup K 2 (gCons (gName 6) (gCons (gName 7) gNil)))) (by rfl) scNeighboursOf.nd rfl rfl (sw_true rfl rfl rfl (by decide +kernel)) (piTK K (pv 3))
      (blkOk_by (own := [("a", 6), ("b", 7)]) (N := nNeighboursOf) (sc := (defScope sNeighboursOf)) (by decide +kernel))
      (fun _ _ _ _ _ => (pgTK K (pgs_cons (pg_name (i := 6) scNeighboursOf.nd rfl (Or.inl rfl)) (pgs_cons (pg_name (i := 7) scNeighboursOf.nd rfl (Or.inl rfl)) pgs_nil)))) (fun _ _ _ _ _ => (pts_one (pt_cmpR op_eq (pv 7) (pv 1) (nomark _))))
      (fun _ _ _ _ _ => (pv 6)))
    (pss_cons (ps_setLc (i := 5) (own := [("a", 6), ("b", 7)]) (g := (gTup K 2 (gCons (gName 6) (gCons (gName 7) gNil)))) (by rfl) scNeighboursOf.nd rfl rfl (sw_true rfl rfl rfl (by decide +kernel)) (piTK K (pv 3))
      (blkOk_by (own := [("a", 6), ("b", 7)]) (N := nNeighboursOf) (sc := (defScope sNeighboursOf)) (by decide +kernel))
      (fun _ _ _ _ _ => (pgTK K (pgs_cons (pg_name (i := 6) scNeighboursOf.nd rfl (Or.inl rfl)) (pgs_cons (pg_name (i := 7) scNeighboursOf.nd rfl (Or.inl rfl)) pgs_nil)))) (fun _ _ _ _ _ => (pts_one (pt_cmpR op_eq (pv 6) (pv 1) (nomark _))))
      (fun _ _ _ _ _ => (pv 7)))
    (pss_one (ps_ret (pe_callTy (tupleK K) (by rfl) m_tuple (by decide +kernel) (pa_cons (pe_op op_cat (pv 4) (pv 5)) pa_nil))))))), ?_⟩
    refine ⟨.ref a, rfl, a, _, rfl, ha, rfl, _, _, rfl, _, _, rfl, rfl, ?_⟩
    refine ⟨.ref b, rfl, b, rfl, ⟨_, hb⟩, fun D nD => ?_⟩
    refine lc_tupP (K := K) (fun p => decide (p.2 = v)) (fun p => .int p.1) nD hb hA (fun _ _ => rfl) (fun o _ H' R s1 hR => ?_) (fun o _ _ H' R s1 hR => ?_) (fun o => only_int _) (by omega) (fun H2 ys s2 eD dy => ?_)
    · refine ⟨.int o.2, rfl, .int v, rfl, rfl, _, rfl, ?_⟩
      rw [dec_int]
      exact hR H' (Same.refl _)
    · exact ⟨.int o.1, rfl, hR H' _ (Same.refl _) (.int _)⟩
    refine ⟨.ref b, rfl, b, rfl, ⟨_, Same.tup s2 hb⟩, fun D2 nD2 => ?_⟩
    refine lc_tupP (K := K) (fun p => decide (p.1 = v)) (fun p => .int p.2) nD2 (Same.tup s2 hb) (DpAll.same s2 hA) (fun _ _ => rfl) (fun o _ H' R s1 hR => ?_) (fun o _ _ H' R s1 hR => ?_) (fun o => only_int _) (by omega) (fun H3 zs s3 eD3 dz => ?_)
    · refine ⟨.int o.1, rfl, .int v, rfl, rfl, _, rfl, ?_⟩
      rw [dec_int]
      exact hR H' (Same.refl _)
    · exact ⟨.int o.2, rfl, hR H' _ (Same.refl _) (.int _)⟩
    have e1 : ys = ((es.filter fun p => decide (p.2 = v)).map (·.1)).map V.int := DpAll.ints (by rw [List.map_map]; exact dy)
    have e2 : zs = ((es.filter fun p => decide (p.1 = v)).map (·.2)).map V.int := DpAll.ints (by rw [List.map_map]; exact dz)
    subst e1 e2
    have l1 := List.length_filter_le (fun p => decide (p.2 = v)) es
    have l2 := List.length_filter_le (fun p => decide (p.1 = v)) es
    refine ⟨.ref D, rfl, .ref D2, rfl, D, D2, _, _, rfl, rfl, s3 _ _ eD, eD3, Nat.le_of_lt (small1000 (by rw [List.length_map, List.length_map, List.length_map, List.length_map]; omega)), fun p np => ?_⟩
    rw [← List.map_append]
    have t1 := same_upd (o := .lst ((nbL es v).map V.int)) np
    refine ⟨p, _, rfl, .inl ⟨SqL.of upd_same, fun t nt => ?_⟩⟩
    have t2 := same_upd (o := .tup ((nbL es v).map V.int)) nt
    refine q _ _ (((s2.trans s3).trans t1).trans t2) ?_
    rw [← isf.nb v]
    exact Dp.ints (SqT.of upd_same)
def spBlockingLamps (K : PySem.W.Frag) : Sp := fun vs H Q _ => ∃ (x y : V) (m : Nat) (es : List (Int × Int)) (S : List Int) (u v : Int), vs = [x, y, .int u, .int v] ∧ m ≤ 12 ∧ IsFor m es ∧ Dp K H x (forD m es) ∧ Dp K H y (intsD S) ∧
  ∀ (H' : Hp) (z : V), Same H H' → Dp K H' z (intsD (oth m es S u v)) → Q z H'
theorem ok_BlockingLamps {f : Addr} {fd : FuncData} {k : Nat} (F : Fun K "blocking_lamps" "blocking_lamps" sBlockingLamps f fd) (m_tuple : mg "tuple" = none)
    (oNeighboursOf : Own P w K mg base "neighbours_of" 1 ["forest", "vertex"] (spNeighboursOf K)) :
    FnOk P w K mg base CX0 2 f fd ["forest", "setting", "u", "v"] (spBlockingLamps K) := by
  refine F.ok scBlockingLamps (fun vs H Q E h => ?_) (fun cdv A outer s H vs Q E hr h => ?_)
  · obtain ⟨x, y, m, es, S, u, v, rfl, _⟩ := h
    rfl
  · obtain ⟨x, y, m, es, S, u, v, rfl, hm, isf, hx, hy, q⟩ := h
    obtain ⟨b, rfl, hb⟩ := Dp.intsI hy
    refine ⟨_, (pss_one (ps_ret (pe_callTy (tupleK K) (by rfl) m_tuple (by decide +kernel) (pa_cons (pe_lc (own := [("vertex", 4)]) (g := (gName 4)) rfl scBlockingLamps.nd (piTK K (pe_own oNeighboursOf (hr.mono (by decide)) (by rfl) (pa_cons (pv 0) (pa_cons (pv 3) pa_nil))))
      (blkOk_by (own := [("vertex", 4)]) (N := nBlockingLamps) (sc := (defScope sBlockingLamps)) (by decide +kernel))
      (fun _ _ _ _ _ => (pg_name (i := 4) scBlockingLamps.nd rfl (Or.inl rfl))) (fun _ _ _ _ _ => (pts_one (PW.pt (pw_and (pt_cmpR (inK K) (pv 4) (pv 1) (by rfl)) (pw_and1 (pt_cmpR op_ne (pv 4) (pv 2) (nomark _)))))))
      (fun _ _ _ _ _ => (pv 4))) pa_nil)))), ?_⟩
    refine ⟨x, rfl, .int v, rfl, x, m, es, v, rfl, hm, isf, hx, fun H1 n s1 dn => ?_⟩
    obtain ⟨a, rfl, ha⟩ := Dp.intsI dn
    refine ⟨a, rfl, ⟨_, ha⟩, fun D nD => ?_⟩
    have nl := nearL_len m es v
    refine lc_tupI (K := K) (fun o => decide (o ∈ S) && !decide (o = u)) .int nD ha (fun _ => rfl) (fun o _ H' R s2 hR => ?_) (fun o _ _ H' R s2 hR => ?_) only_int (by omega) (fun H2 ys s2 eD dy => ?_)
    · refine ⟨.int o, rfl, .ref b, rfl, b, S.map V.int, rfl, .inr (Same.tup (s1.trans s2) hb), rfl, flat_ints S, _, rfl, ?_⟩
      have hR' := hR H' (Same.refl _)
      show if (if false = true then _ else inV (V.int o) (S.map V.int)) = true then _ else _
      rw [if_neg Bool.false_ne_true, inV_ints]
      refine ite2 (fun h => ?_) (fun h => ?_)
      · refine ⟨.int o, rfl, .int u, rfl, rfl, _, rfl, ?_⟩
        rw [dec_int]
        rw [h, Bool.true_and] at hR'
        exact hR'
      · rw [Bool.not_eq_true] at h
        rw [h, Bool.false_and] at hR'
        exact hR'
    · exact ⟨.int o, rfl, hR H' _ (Same.refl _) (.int o)⟩
    rw [lst_ints dy] at eD
    refine ⟨D, _, rfl, .inl ⟨SqL.of eD, fun t nt => ?_⟩⟩
    exact q _ _ ((s1.trans s2).trans (same_upd nt)) (Dp.ints (SqT.of upd_same))
/-! ### the program: exits, the greatest lock -/
def spFreeNeighbour (K : PySem.W.Frag) : Sp := fun vs H Q _ => ∃ (x y : V) (m : Nat) (es : List (Int × Int)) (L : List Int) (u : Int), vs = [x, y, .int u] ∧ m ≤ 12 ∧ IsFor m es ∧ Dp K H x (forD m es) ∧ Dp K H y (intsD L) ∧
  ∀ (H' : Hp) (o : Option Int), Same H H' → (o = none → ∀ v ∈ nearL m es u, oth m es L u v ≠ []) → (∀ v, o = some v → v ∈ nearL m es u ∧ oth m es L u v = []) → Q (pV o) H'
theorem ok_FreeNeighbour {f : Addr} {fd : FuncData} (F : Fun K "free_neighbour" "free_neighbour" sFreeNeighbour f fd) (oNeighboursOf : Own P w K mg base "neighbours_of" 1 ["forest", "vertex"] (spNeighboursOf K))
    (oBlockingLamps : Own P w K mg base "blocking_lamps" 2 ["forest", "setting", "u", "v"] (spBlockingLamps K)) :
    FnOk P w K mg base CX0 3 f fd ["forest", "left", "lamp"] (spFreeNeighbour K) := by
  refine F.ok scFreeNeighbour (fun vs H Q E h => ?_) (fun cdv A outer s H vs Q E hr h => ?_)
  · obtain ⟨x, y, m, es, L, u, rfl, _⟩ := h
    rfl
  · obtain ⟨x, y, m, es, L, u, rfl, hm, isf, hx, hy, q⟩ := h
    refine ⟨_, (pss_cons (ps_for PassesOwn.never rfl (piTK K (pe_own oNeighboursOf (hr.mono (by decide)) (by rfl) (pa_cons (pv 0) (pa_cons (pv 2) pa_nil)))) (pg_name (i := 3) scFreeNeighbour.nd rfl (Or.inl rfl))
    (pss_one (ps_if (pt_not (truthK K (pe_own oBlockingLamps (hr.mono (by decide)) (by rfl) (pa_cons (pv 0) (pa_cons (pv 1) (pa_cons (pv 2) (pa_cons (pv 3) pa_nil))))) (by intro _; rfl))) (pss_one (ps_ret (pv 3))) pss_nil)))
    (pss_one (ps_ret pe_non))), ?_⟩
    refine ⟨x, rfl, .int u, rfl, x, m, es, u, rfl, hm, isf, hx, fun H1 n s1 dn => ?_⟩
    obtain ⟨a, rfl, ha⟩ := Dp.intsI dn
    refine ⟨a, rfl, ⟨_, ha⟩, for_tup (K := K) (a := a) (xs := (nearL m es u).map V.int) (fun i σ H' => ∃ y3 : Option V, σ = [some x, some y, some (.int u), y3] ∧ Same H1 H' ∧ ∀ v ∈ (nearL m es u).take i, oth m es L u v ≠ []) ?_ ?_ ?_ ?_⟩
    · exact ⟨_, rfl, Same.refl _, fun v hv => nomatch hv⟩
    · rintro i σ H' _ ⟨y3, rfl, s2, _⟩
      exact Same.tup s2 ha
    · rintro i v σ H2 hv ⟨y3, rfl, s2, no⟩
      rw [List.getElem?_map] at hv
      obtain ⟨z, hz, rfl⟩ := Option.map_eq_some_iff.mp hv
      have s12 := s1.trans s2
      refine ⟨x, rfl, y, rfl, .int u, rfl, .int z, rfl, x, y, m, es, L, u, z, rfl, hm, isf, Dp.same s12 hx, Dp.same s12 hy, fun H3 r s3 dr => ?_⟩
      obtain ⟨c, rfl, hc⟩ := Dp.intsI dr
      by_cases e : oth m es L u z = []
      · refine ⟨false, .inr (.inl ⟨_, hc, by rw [e]; rfl⟩), iteT ⟨.int z, rfl, ?_⟩⟩
        exact q H3 (some z) (s12.trans s3) (fun w => nomatch w) fun w hw => by cases hw; exact ⟨List.mem_of_getElem? hz, e⟩
      · refine ⟨true, .inr (.inl ⟨_, hc, ?_⟩), iteF ⟨_, rfl, s2.trans s3, fun w hw => ?_⟩⟩
        · cases h : oth m es L u z with
          | nil => exact absurd h e
          | cons b t => rfl
        · rw [List.take_add_one, hz] at hw
          rcases List.mem_append.mp hw with hw | hw
          · exact no w hw
          · rw [List.mem_singleton.mp hw]
            exact e
    · rintro σ H2 ⟨y3, rfl, s2, no⟩
      rw [List.length_map, List.take_length] at no
      exact q H2 none (s1.trans s2) (fun _ => no) fun w hw => nomatch hw
/-- a dict from ints to ints, by its entries -/
def tabP (ks : List (Int × Int)) : List (Key × V) := ks.map fun p => ((Sum.inl p.1 : Key), V.int p.2)
theorem tabP_val (x : Int) : ∀ ks : List (Int × Int), (x ∉ ks.map (·.1) ∧ valV (tabP ks) (Sum.inl x) = none) ∨ ∃ v, (x, v) ∈ ks ∧ valV (tabP ks) (Sum.inl x) = some (.int v)
  | [] => .inl ⟨(fun h => nomatch h), rfl⟩
  | p :: ks => by
    have e0 : tabP (p :: ks) = ((Sum.inl p.1 : Key), V.int p.2) :: tabP ks := rfl
    rw [e0]
    by_cases e : p.1 = x
    · refine .inr ⟨p.2, ?_, valV_pos (by show (Sum.inl p.1 : Key) = Sum.inl x; rw [e])⟩
      rw [← e]
      exact List.mem_cons_self
    · have e' : ¬ (Sum.inl p.1 : Key) = Sum.inl x := fun z => e (Sum.inl.inj z)
      rw [valV_neg e']
      rcases tabP_val x ks with ⟨h1, h2⟩ | ⟨v, h1, h2⟩
      · refine .inl ⟨fun h => ?_, h2⟩
        rcases List.mem_cons.mp h with h | h
        · exact e h.symm
        · exact h1 h
      · exact .inr ⟨v, List.mem_cons_of_mem _ h1, h2⟩
theorem tabP_snoc {ks : List (Int × Int)} {x : Int} (v : Int) (h : x ∉ ks.map (·.1)) : putK (tabP ks) (Sum.inl x) (V.int v) = tabP (ks ++ [(x, v)]) := by
  rcases tabP_val x ks with ⟨_, h2⟩ | ⟨v, h1, _⟩
  · rw [putK_new _ h2]
    unfold tabP
    rw [List.map_append]
    rfl
  · exact absurd (List.mem_map.mpr ⟨_, h1, rfl⟩) h
/-- what is left of the lamps -/
def lft (S : List Int) (ks : List (Int × Int)) : List Int := S.filter fun x => decide (x ∉ ks.map (·.1))
theorem mem_lft {S : List Int} {ks : List (Int × Int)} {x : Int} : x ∈ lft S ks ↔ x ∈ S ∧ x ∉ ks.map (·.1) := by
  unfold lft
  rw [List.mem_filter, decide_eq_true_eq]
theorem lft_lt {S : List Int} {ks : List (Int × Int)} {x : Int} (v : Int) (hx : x ∈ lft S ks) : (lft S (ks ++ [(x, v)])).length < (lft S ks).length := by
  obtain ⟨h1, h2⟩ := mem_lft.mp hx
  refine filt_lt (fun y hy => ?_) h1 (decide_eq_false fun z => z ?_) (decide_eq_true h2)
  · have := of_decide_eq_true hy
    refine decide_eq_true fun z => this ?_
    rw [List.map_append]
    exact List.mem_append_left _ z
  · rw [List.map_append]
    exact List.mem_append_right _ (List.mem_singleton.mpr rfl)
/-- exits so far: no lock has one of these lamps -/
structure Ex (m : Nat) (es : List (Int × Int)) (S : List Int) (ks : List (Int × Int)) : Prop where
  nd : (ks.map (·.1)).Nodup
  sub : ∀ p ∈ ks, p.1 ∈ S
  out : ∀ T : List Int, (∀ x ∈ T, x ∈ S) → Cl m es T → ∀ x ∈ T, x ∉ ks.map (·.1)
theorem Ex.start (m : Nat) (es : List (Int × Int)) (S : List Int) : Ex m es S [] := ⟨.nil, (fun _ h => nomatch h), fun _ _ _ _ _ h => nomatch h⟩
theorem Ex.add {m : Nat} {es : List (Int × Int)} {S : List Int} {ks js : List (Int × Int)} (h : Ex m es S ks) (h0 : Ex m es S js) {x v : Int} (hx : x ∈ S) (nx : x ∉ ks.map (·.1)) (hv : v ∈ nearL m es x) (fr : oth m es (lft S js) x v = []) : Ex m es S (ks ++ [(x, v)]) where
  nd := by
    rw [List.map_append]
    exact List.nodup_append.mpr ⟨h.nd, List.pairwise_singleton _ _, fun a ha b hb e => nx (by rw [List.mem_singleton.mp hb] at e; have e : a = x := e; exact e ▸ ha)⟩
  sub := fun p hp => by
    rcases List.mem_append.mp hp with hp | hp
    · exact h.sub p hp
    · rw [List.mem_singleton.mp hp]
      exact hx
  out := fun T hT cl y hy z => by
    rw [List.map_append] at z
    rcases List.mem_append.mp z with z | z
    · exact h.out T hT cl y hy z
    · have e : y = x := List.mem_singleton.mp z
      subst e
      obtain ⟨w, w1, w2, w3⟩ := cl.other hy hv
      have : w ∈ oth m es (lft S js) y v := mem_oth.mpr ⟨w3, mem_lft.mpr ⟨hT w w1, h0.out T hT cl w w1⟩, w2⟩
      rw [fr] at this
      cases this
theorem Ex.len {m : Nat} {es : List (Int × Int)} {S : List Int} {ks : List (Int × Int)} (h : Ex m es S ks) : ks.length ≤ S.length := by
  have := h.nd.length_le_of_subset (l₂ := S) fun x hx => by
    obtain ⟨p, hp, rfl⟩ := List.mem_map.mp hx
    exact h.sub p hp
  rw [List.length_map] at this
  exact this
def spExitsOf (K : PySem.W.Frag) : Sp := fun vs H Q _ => ∃ (x y : V) (m : Nat) (es : List (Int × Int)) (S : List Int), vs = [x, y] ∧ m ≤ 12 ∧ IsFor m es ∧ Dp K H x (forD m es) ∧ Dp K H y (intsD S) ∧ Asc S ∧ S.length ≤ 12 ∧
  ∀ (H' : Hp) (D : Addr) (ks : List (Int × Int)), Same H H' → H D = none → H' D = some (.dK (tabP ks)) → Ex m es S ks → IsGr m es S (lft S ks) → Q (.ref D) H'
theorem kt_dk1 {H : Hp} {G : Addr} {kvs kvs' : List (Key × V)} (e : H G = some (.dK kvs)) : KT K H (upd H G (.dK kvs')) := by
  intro h zs qh
  rcases qh with (qh | ⟨o, qh⟩) | qh
  · refine .inl (.inl ?_)
    rw [upd_ne fun y => by rw [y, e] at qh; cases qh]
    exact qh
  · refine .inl (.inr ⟨o, ?_⟩)
    rw [upd_ne fun y => by rw [y, e] at qh; cases qh]
    exact qh
  · exact .inr qh
theorem ok_ExitsOf {f : Addr} {fd : FuncData} (F : Fun K "exits_of" "exits_of" sExitsOf f fd) (m_tuple : mg "tuple" = none)
    (oFreeNeighbour : Own P w K mg base "free_neighbour" 3 ["forest", "left", "lamp"] (spFreeNeighbour K)) :
    FnOk P w K mg base CX0 4 f fd ["forest", "setting"] (spExitsOf K) := by
  refine F.ok scExitsOf (fun vs H Q E h => ?_) (fun cdv A outer s H vs Q E hr h => ?_)
  · obtain ⟨x, y, m, es, S, rfl, _⟩ := h
    rfl
  · obtain ⟨x, y, m, es, S, rfl, hm, isf, hx, hy, asc, lS, q⟩ := h
    obtain ⟨c, rfl, hc⟩ := Dp.intsI hy
    refine ⟨_, (pss_cons (ps_set (i := 2) scExitsOf.nd rfl (.inr rfl) pe_dnewK)
    (pss_cons (ps_set (i := 3) scExitsOf.nd rfl (.inl rfl) (pv 1))
    (pss_cons (ps_set (i := 4) scExitsOf.nd rfl (.inl rfl) pe_bl)
    (pss_cons (ps_while PassesOwn.never (truthK K (pv 4) (by intro _; rfl)) (pss_cons (ps_set (i := 4) scExitsOf.nd rfl (.inl rfl) pe_bl)
    (pss_cons (ps_for PassesOwn.never rfl (piTK K (pv 3)) (pg_name (i := 5) scExitsOf.nd rfl (Or.inl rfl))
    (pss_cons (ps_set (i := 6) scExitsOf.nd rfl (.inl rfl) (pe_own oFreeNeighbour (hr.mono (by decide)) (by rfl) (pa_cons (pv 0) (pa_cons (pv 3) (pa_cons (pv 5) pa_nil)))))
    (pss_one (ps_if (pt_cmpR op_notN (pv 6) pe_non (nomark _)) (pss_cons (ps_dput (hu_of hr) (pv 2) (pv 5) (pv 6) rfl)
    (pss_one (ps_set (i := 4) scExitsOf.nd rfl (.inl rfl) pe_bl))) pss_nil))))
    (pss_one (ps_set (i := 3) scExitsOf.nd rfl (.inl rfl) (pe_callTy (tupleK K) (by rfl) m_tuple (by decide +kernel) (pa_cons (pe_lc (own := [("lamp", 5)]) (g := (gName 5)) rfl scExitsOf.nd (piTK K (pv 1))
      (blkOk_by (own := [("lamp", 5)]) (N := nExitsOf) (sc := (defScope sExitsOf)) (by decide +kernel))
      (fun _ _ _ _ _ => (pg_name (i := 5) scExitsOf.nd rfl (Or.inl rfl))) (fun _ _ _ _ _ => (pts_one (pt_cmp (pc_dnotin (hu_of hr) (pv 5) (pv 2)))))
      (fun _ _ _ _ _ => (pv 5))) pa_nil)))))))
    (pss_one (ps_ret (pv 2))))))), ?_⟩
    refine fun G nG => ?_
    have sG := same_upd (o := .dK []) nG
    refine ⟨.ref c, rfl, ?_⟩
    refine while_ms (fun t σ H' => ∃ (y5 y6 : Option V) (l : Addr) (b : Bool) (ks : List (Int × Int)), σ = [some x, some (.ref c), some (.ref G), some (.ref l), some (.bl b), y5, y6] ∧ Same H H' ∧ H' G = some (.dK (tabP ks)) ∧ SqT K H' l ((lft S ks).map V.int) ∧ Ex m es S ks ∧ (b = false → Cl m es (lft S ks)) ∧ t = if b = true then (lft S ks).length + 1 else 0) _
      ⟨_, _, c, true, [], rfl, sG, upd_same, ?_, Ex.start m es S, (fun h => nomatch h), rfl⟩ ?_ ?_
    · have e : lft S [] = S := List.filter_eq_self.mpr fun z _ => decide_eq_true fun h => nomatch h
      rw [e]
      exact Same.tup sG hc
    · rintro tt σ H1 ⟨y5, y6, l, b, ks, rfl, s1, eG1, hl1, ex, cl, rfl⟩
      refine ⟨.bl b, rfl, b, rfl, ?_⟩
      cases b with
      | false =>
        refine iteF ⟨.ref G, rfl, q _ G ks s1 nG eG1 ex ⟨asc.filter _, fun z hz => (mem_lft.mp hz).1, cl rfl, fun T hT clT z hz => mem_lft.mpr ⟨hT z hz, ex.out T hT clT z hz⟩⟩⟩
      | true =>
        refine iteT ?_
        have ll : (lft S ks).length ≤ 12 := by
          have := List.length_filter_le (fun z => decide (z ∉ ks.map (·.1))) S
          unfold lft
          omega
        have ndl : (lft S ks).Nodup := asc.nodup.filter _
        refine ⟨.ref l, rfl, l, rfl, ⟨_, hl1⟩, for_tup (K := K) (a := l) (xs := (lft S ks).map V.int) (fun i σ H' => ∃ (y5 y6 : Option V) (b : Bool) (ns : List (Int × Int)), σ = [some x, some (.ref c), some (.ref G), some (.ref l), some (.bl b), y5, y6] ∧ Same H H' ∧ SqT K H' l ((lft S ks).map V.int) ∧ H' G = some (.dK (tabP (ks ++ ns))) ∧ Ex m es S (ks ++ ns) ∧
          (∀ p ∈ ns, p.1 ∈ (lft S ks).take i) ∧ (b = false → ns = [] ∧ ∀ u ∈ (lft S ks).take i, ∀ v ∈ nearL m es u, oth m es (lft S ks) u v ≠ []) ∧ (b = true → (lft S (ks ++ ns)).length < (lft S ks).length)) ?_ ?_ ?_ ?_⟩
        · exact ⟨_, _, false, [], rfl, s1, hl1, by rw [List.append_nil]; exact eG1, by rw [List.append_nil]; exact ex, (fun _ h => nomatch h), fun _ => ⟨rfl, fun _ h => nomatch h⟩, (fun h => nomatch h)⟩
        · rintro i σ H' _ ⟨y5, y6, b, ns, rfl, _, h, _⟩
          exact h
        · rintro i v σ H2 hv ⟨y5, y6, b, ns, rfl, s2, hl2, eG2, ex2, nin, bf, bt⟩
          rw [List.getElem?_map] at hv
          obtain ⟨u, hu, rfl⟩ := Option.map_eq_some_iff.mp hv
          have mu : u ∈ lft S ks := List.mem_of_getElem? hu
          obtain ⟨hi, eu⟩ := List.getElem?_eq_some_iff.mp hu
          have tk : (lft S ks).take (i + 1) = (lft S ks).take i ++ [u] := by rw [List.take_add_one, hu]; rfl
          have nut : u ∉ (lft S ks).take i := fun z => by
            obtain ⟨j, hj, e⟩ := List.mem_iff_getElem.mp z
            rw [List.length_take] at hj
            rw [List.getElem_take, ← eu] at e
            have := (List.getElem_inj ndl).mp e
            omega
          have nuk : u ∉ (ks ++ ns).map (·.1) := fun z => by
            rw [List.map_append] at z
            rcases List.mem_append.mp z with z | z
            · exact (mem_lft.mp mu).2 z
            · obtain ⟨p, hp, e⟩ := List.mem_map.mp z
              exact nut (e ▸ nin p hp)
          refine ⟨x, rfl, .ref l, rfl, .int u, rfl, x, .ref l, m, es, lft S ks, u, rfl, hm, isf, Dp.same s2 hx, Dp.ints hl2, fun H3 o s3 hno hyes => ?_⟩
          have eG3 := s3 _ _ eG2
          have hl3 := Same.tup s3 hl2
          refine ⟨pV o, rfl, rfl, _, rfl, ?_⟩
          cases o with
          | none =>
            refine iteF ⟨_, _, b, ns, rfl, s2.trans s3, hl3, eG3, ex2, fun p hp => by rw [tk]; exact List.mem_append_left _ (nin p hp), fun hb => ⟨(bf hb).1, fun w hw => ?_⟩, bt⟩
            rw [tk] at hw
            rcases List.mem_append.mp hw with hw | hw
            · exact (bf hb).2 w hw
            · rw [List.mem_singleton.mp hw]
              exact hno rfl
          | some z =>
            obtain ⟨zn, zo⟩ := hyes z rfl
            have ex3 := ex2.add ex (mem_lft.mp mu).1 nuk zn zo
            have lk := ex2.len
            refine iteT ⟨.int z, rfl, .ref G, rfl, .int u, rfl, G, _, rfl, DPut.k (k := Sum.inl u) eG3 (by unfold tabP; rw [List.length_map]; exact small1000 (by omega)), ?_⟩
            have kt : KT K H3 (upd H3 G (.dK (putK (tabP (ks ++ ns)) (Sum.inl u) (V.int z)))) := kt_dk1 eG3
            refine ⟨_, _, true, ns ++ [(u, z)], rfl, fun h o eh => ?_, kt _ _ hl3, ?_, ?_, fun p hp => ?_, fun h => (nomatch h), fun _ => ?_⟩
            · rw [upd_ne (ne_of_none eh nG)]
              exact s3 _ _ (s2 _ _ eh)
            · rw [upd_same, tabP_snoc z nuk, List.append_assoc]
            · rw [← List.append_assoc]
              exact ex3
            · rw [tk]
              rcases List.mem_append.mp hp with hp | hp
              · exact List.mem_append_left _ (nin p hp)
              · rw [List.mem_singleton.mp hp]
                exact List.mem_append_right _ (List.mem_singleton.mpr rfl)
            · rw [← List.append_assoc]
              have h1 := lft_lt z (mem_lft.mpr ⟨(mem_lft.mp mu).1, nuk⟩)
              cases b with
              | true => exact Nat.lt_trans h1 (bt rfl)
              | false =>
                have e0 := (bf rfl).1
                subst e0
                rw [List.append_nil] at h1 ⊢
                exact h1
        · rintro σ H2 ⟨y5, y6, b, ns, rfl, s2, hl2, eG2, ex2, nin, bf, bt⟩
          rw [List.length_map, List.take_length] at bf
          refine ⟨.ref c, rfl, c, rfl, ⟨_, Same.tup s2 hc⟩, fun D nD => ?_⟩
          refine lc_tupI (K := K) (fun z => decide (z ∉ (ks ++ ns).map (·.1))) .int nD (Same.tup s2 hc) (fun _ => rfl) (fun o _ H' R s3 hR => ?_) (fun o _ _ H' R s3 hR => ⟨.int o, rfl, hR H' _ (Same.refl _) (.int o)⟩) only_int (by omega) (fun H3 ys s3 eD dy => ?_)
          · have hR' := hR H' (Same.refl _)
            refine ⟨.int o, rfl, .ref G, rfl, G, _, rfl, DGet.k (k := Sum.inl o) (s3 _ _ eG2), _, rfl, ?_⟩
            rcases tabP_val o (ks ++ ns) with ⟨h1, h2⟩ | ⟨v, h1, h2⟩
            · rw [h2]
              rw [decide_eq_true h1] at hR'
              exact hR'
            · rw [h2]
              rw [decide_eq_false fun z => z (List.mem_map.mpr ⟨_, h1, rfl⟩)] at hR'
              exact hR'
          rw [lst_ints dy] at eD
          refine ⟨D, _, rfl, .inl ⟨SqL.of eD, fun t nt => ?_⟩⟩
          have st := same_upd (o := .tup (((S.filter fun z => decide (z ∉ (ks ++ ns).map (·.1)))).map V.int)) nt
          refine ⟨if b = true then (lft S (ks ++ ns)).length + 1 else 0, ?_, _, _, t, b, ks ++ ns, rfl, (s2.trans s3).trans st, st _ _ (s3 _ _ eG2), SqT.of upd_same, ex2, fun hb => ?_, rfl⟩
          · rw [if_pos rfl]
            cases b with
            | true =>
              have := bt rfl
              rw [if_pos rfl]
              omega
            | false =>
              rw [if_neg (by decide)]
              omega
          · obtain ⟨e0, h0⟩ := bf hb
            subst e0
            rw [List.append_nil]
            exact h0
    · rintro σ H' Q1 Q2 hQ ⟨v, e, k, hk, h⟩
      exact ⟨v, e, k, hk, hQ _ _ h⟩
def spGreatestLock (K : PySem.W.Frag) : Sp := fun vs H Q _ => ∃ (x y : V) (m : Nat) (es : List (Int × Int)) (S : List Int), vs = [x, y] ∧ m ≤ 12 ∧ IsFor m es ∧ Dp K H x (forD m es) ∧ Dp K H y (intsD S) ∧ Asc S ∧ S.length ≤ 12 ∧
  ∀ (H' : Hp) (z : V) (G : List Int), Same H H' → IsGr m es S G → Dp K H' z (intsD G) → Q z H'
theorem ok_GreatestLock {f : Addr} {fd : FuncData} (F : Fun K "greatest_lock" "greatest_lock" sGreatestLock f fd) (m_tuple : mg "tuple" = none)
    (oExitsOf : Own P w K mg base "exits_of" 4 ["forest", "setting"] (spExitsOf K)) :
    FnOk P w K mg base CX0 5 f fd ["forest", "setting"] (spGreatestLock K) := by
  refine F.ok scGreatestLock (fun vs H Q E h => ?_) (fun cdv A outer s H vs Q E hr h => ?_)
  · obtain ⟨x, y, m, es, S, rfl, _⟩ := h
    rfl
  · obtain ⟨x, y, m, es, S, rfl, hm, isf, hx, hy, asc, lS, q⟩ := h
    obtain ⟨c, rfl, hc⟩ := Dp.intsI hy
    refine ⟨_, (pss_cons (ps_set (i := 2) scGreatestLock.nd rfl (.inr rfl) (pe_own oExitsOf (hr.mono (by decide)) (by rfl) (pa_cons (pv 0) (pa_cons (pv 1) pa_nil))))
    (pss_one (ps_ret (pe_callTy (tupleK K) (by rfl) m_tuple (by decide +kernel) (pa_cons (pe_lc (own := [("lamp", 3)]) (g := (gName 3)) rfl scGreatestLock.nd (piTK K (pv 1))
      (blkOk_by (own := [("lamp", 3)]) (N := nGreatestLock) (sc := (defScope sGreatestLock)) (by decide +kernel))
      (fun _ _ _ _ _ => (pg_name (i := 3) scGreatestLock.nd rfl (Or.inl rfl))) (fun _ _ _ _ _ => (pts_one (pt_cmp (pc_dnotin (hu_of hr) (pv 3) (pv 2)))))
      (fun _ _ _ _ _ => (pv 3))) pa_nil))))), ?_⟩
    refine ⟨x, rfl, .ref c, rfl, x, .ref c, m, es, S, rfl, hm, isf, hx, hy, asc, lS, fun H1 G ks s1 nG eG ex gr => ?_⟩
    refine ⟨.ref c, rfl, c, rfl, ⟨_, Same.tup s1 hc⟩, fun D nD => ?_⟩
    refine lc_tupI (K := K) (fun z => decide (z ∉ ks.map (·.1))) .int nD (Same.tup s1 hc) (fun _ => rfl) (fun o _ H' R s3 hR => ?_) (fun o _ _ H' R s3 hR => ⟨.int o, rfl, hR H' _ (Same.refl _) (.int o)⟩) only_int (by omega) (fun H3 ys s3 eD dy => ?_)
    · have hR' := hR H' (Same.refl _)
      refine ⟨.int o, rfl, .ref G, rfl, G, _, rfl, DGet.k (k := Sum.inl o) (s3 _ _ eG), _, rfl, ?_⟩
      rcases tabP_val o ks with ⟨h1, h2⟩ | ⟨v, h1, h2⟩
      · rw [h2]
        rw [decide_eq_true h1] at hR'
        exact hR'
      · rw [h2]
        rw [decide_eq_false fun z => z (List.mem_map.mpr ⟨_, h1, rfl⟩)] at hR'
        exact hR'
    rw [lst_ints dy] at eD
    refine ⟨D, _, rfl, .inl ⟨SqL.of eD, fun t nt => ?_⟩⟩
    exact q _ _ (lft S ks) ((s1.trans s3).trans (same_upd nt)) gr (Dp.ints (SqT.of upd_same))
end
end TL
namespace TL
open PySem PySem.Spec PyProof.Rows L2
section
variable {P : Program} {w : World} {K : PySem.W.Frag} {mg : Str → Option Value} {base : Heap}
/-! ### the program: parts -/
def spMerged : Sp := fun vs H Q _ => ∃ (L : Addr) (f : Int → Int) (ws : List Int) (a b : Int), vs = [.ref L, .int a, .int b] ∧ H L = some (.dK (tab f ws)) ∧ ws.Nodup ∧ ws.length ≤ 100 ∧ a ∈ ws ∧ b ∈ ws ∧
  ∀ (H' : Hp) (D : Addr), Same H H' → H D = none → H' D = some (.dK (tab (mrg f a b) ws)) → Q (.ref D) H'
theorem ok_Merged {f : Addr} {fd : FuncData} {k : Nat} (F : Fun K "merged" "merged" sMerged f fd) : FnOk P w K mg base CX0 (k + 1) f fd ["labels", "a", "b"] spMerged := by
  refine F.ok scMerged (fun vs H Q E h => ?_) (fun cdv A outer s H vs Q E hr h => ?_)
  · obtain ⟨L, f, ws, a, b, rfl, _⟩ := h
    rfl
  · obtain ⟨L, f, ws, a, b, rfl, hL, nd, lw, ha, hb, q⟩ := h
    refine ⟨_, (pss_cons (ps_set (i := 3) scMerged.nd rfl (.inr rfl) (pe_dget (hu_of hr) (pv 0) (pv 1) (fun _ _ => rfl)))
    (pss_cons (ps_set (i := 4) scMerged.nd rfl (.inr rfl) (pe_dget (hu_of hr) (pv 0) (pv 2) (fun _ _ => rfl)))
    (pss_one (ps_ret (pe_lock (pe_dc (own := [("vertex", 5)]) (g := (gName 5)) (tt := tYes) rfl scMerged.nd (pi_keys (pv 0))
      (blkOk_by (own := [("vertex", 5)]) (N := nMerged) (sc := (defScope sMerged)) (by decide +kernel))
      (fun _ _ _ _ _ => (pg_name (i := 5) scMerged.nd rfl (Or.inl rfl))) (fun _ _ _ _ _ => pts_nil)
      (fun _ _ _ _ _ => (pv 5))
      (fun _ _ _ _ _ => (pe_ifExp (pt_cmpR op_eq (pe_dget (hu_of hr) (pv 0) (pv 5) (fun _ _ => rfl)) (pv 3) (nomark _)) (pv 4) (pe_dget (hu_of hr) (pv 0) (pv 5) (fun _ _ => rfl)))))))))), ?_⟩
    have va : valV (tab f ws) (Sum.inl a) = some (.int (f a)) := by rw [tab_val, if_pos ha]
    have vb : valV (tab f ws) (Sum.inl b) = some (.int (f b)) := by rw [tab_val, if_pos hb]
    refine ⟨.ref L, rfl, .int a, rfl, L, .int (f a), rfl, va ▸ DGet.k (k := Sum.inl a) hL, ?_⟩
    refine ⟨.ref L, rfl, .int b, rfl, L, .int (f b), rfl, vb ▸ DGet.k (k := Sum.inl b) hL, ?_⟩
    refine ⟨L, _, hL, trivial, fun od => ?_⟩
    have eL : upd H L (.frz od (.dK (tab f ws))) L = some (.frz od (.dK (tab f ws))) := upd_same
    refine ⟨.ref L, rfl, L, od, rfl, .inl ⟨_, eL, fun D nD => ?_⟩⟩
    have nLD : L ≠ D := ne_of_none eL nD
    have nHD : H D = none := by rw [upd_ne nLD.symm] at nD; exact nD
    refine dc_tab (mrg f a b) ws (fun v => [some (.ref L), some (.int a), some (.int b), some (.int (f a)), some (.int (f b)), some (.int v)]) nd nD (by omega) (fun j H' hj s1 => ⟨s1 _ _ eL, by rw [tab_len]; exact hj⟩) (fun H' s1 => ⟨s1 _ _ eL, by rw [tab_len]; exact Nat.le_refl _⟩) (fun j v x H' H'' hv s1 y => ?_) (fun v => rfl) (fun v _ H' R s1 hR => ?_) (fun v hv H' R s1 hR => ?_) (fun H' s1 eD => ?_)
    · obtain ⟨e, k, z, hk, hx⟩ := y
      unfold tab at hk
      rw [List.getElem?_map, hv] at hk
      cases hk
      subst hx
      exact ⟨e, fun Q q => q⟩
    · exact ⟨.int v, rfl, hR⟩
    · have vv : valV (tab f ws) (Sum.inl v) = some (.int (f v)) := by rw [tab_val, if_pos hv]
      have dg : DGet H' L (.int v) (some (.int (f v))) := by
        rw [← vv]
        exact .inl ⟨tab f ws, Sum.inl v, .inr ⟨od, s1 _ _ eL⟩, rfl, rfl⟩
      refine ⟨.ref L, rfl, .int v, rfl, L, .int (f v), rfl, dg, .int (f a), rfl, rfl, _, rfl, ?_⟩
      rw [dec_int]
      have h2 := hR H' (Same.refl _)
      unfold mrg at h2
      refine ite2 (fun h => ?_) (fun h => ?_)
      · rw [if_pos (of_decide_eq_true h)] at h2
        exact ⟨.int (f b), rfl, h2⟩
      · rw [if_neg fun z => h (decide_eq_true z)] at h2
        exact ⟨.ref L, rfl, .int v, rfl, L, .int (f v), rfl, dg, h2⟩
    · refine ⟨s1 _ _ eL, q _ D (fun c o e => ?_) nHD ?_⟩
      · by_cases hc : c = L
        · rw [hc, upd_same]
          rw [hc, hL] at e
          exact e
        · rw [upd_ne hc]
          exact s1 _ _ (by rw [upd_ne hc]; exact e)
      · rw [upd_ne nLD.symm]
        exact eD
/-- a dict of groups -/
def GD (K : PySem.W.Frag) (H : Hp) (kvs : List (Key × V)) (gs : List (Int × List Int)) : Prop := Paired (fun (p : Key × V) (g : Int × List Int) => p.1 = Sum.inl g.1 ∧ Dp K H p.2 (intsD g.2)) kvs gs
theorem GD.kt {H H' : Hp} (e : KT K H H') : ∀ {kvs : List (Key × V)} {gs : List (Int × List Int)}, GD K H kvs gs → GD K H' kvs gs
  | _, _, .nil => .nil
  | _, _, .cons r t => .cons ⟨r.1, Dp.kt e r.2 (only_intsD _)⟩ (GD.kt e t)
theorem GD.len {H : Hp} {kvs : List (Key × V)} {gs : List (Int × List Int)} (h : GD K H kvs gs) : kvs.length = gs.length := Paired.length h
theorem GD.val {H : Hp} : ∀ {kvs : List (Key × V)} {gs : List (Int × List Int)} (l : Int), GD K H kvs gs →
    (l ∉ gs.map (·.1) ∧ valV kvs (Sum.inl l) = none) ∨ ∃ x g, (l, g) ∈ gs ∧ valV kvs (Sum.inl l) = some x ∧ Dp K H x (intsD g)
  | _, _, l, .nil => .inl ⟨(fun h => nomatch h), rfl⟩
  | p :: _, g :: _, l, .cons r t => by
    by_cases e : g.1 = l
    · refine .inr ⟨p.2, g.2, ?_, ?_, r.2⟩
      · rw [← e]
        exact List.mem_cons_self
      · exact valV_pos (by rw [r.1, e])
    · have e' : ¬ p.1 = Sum.inl l := fun z => e (Sum.inl.inj (r.1.symm.trans z))
      rw [valV_neg e']
      rcases GD.val l t with ⟨h1, h2⟩ | ⟨x, g', h1, h2, h3⟩
      · refine .inl ⟨fun h => ?_, h2⟩
        rcases List.mem_cons.mp h with h | h
        · exact e h.symm
        · exact h1 h
      · exact .inr ⟨x, g', List.mem_cons_of_mem _ h1, h2, h3⟩
theorem GD.map {H : Hp} (l v : Int) (z : V) : ∀ {kvs : List (Key × V)} {gs : List (Int × List Int)}, GD K H kvs gs → (∀ g ∈ gs, g.1 = l → Dp K H z (intsD (g.2 ++ [v]))) →
    GD K H (kvs.map fun kv => if kv.1 = Sum.inl l then (kv.1, z) else kv) (gs.map fun g => if g.1 = l then (g.1, g.2 ++ [v]) else g)
  | _, _, .nil, _ => .nil
  | p :: _, g :: _, .cons r t, h => by
    refine .cons ?_ (GD.map l v z t fun g hg => h g (List.mem_cons_of_mem _ hg))
    dsimp only
    by_cases e : g.1 = l
    · rw [if_pos e, if_pos (by rw [r.1, e])]
      exact ⟨r.1, h g List.mem_cons_self e⟩
    · rw [if_neg e, if_neg fun z => e (Sum.inl.inj (r.1.symm.trans z))]
      exact r
theorem GD.app {H : Hp} {p : Key × V} {g : Int × List Int} (r : p.1 = Sum.inl g.1 ∧ Dp K H p.2 (intsD g.2)) : ∀ {kvs : List (Key × V)} {gs : List (Int × List Int)}, GD K H kvs gs → GD K H (kvs ++ [p]) (gs ++ [g])
  | _, _, .nil => .cons r .nil
  | _, _, .cons q t => .cons q (GD.app r t)
theorem GD.put {H : Hp} {kvs : List (Key × V)} {gs : List (Int × List Int)} (h : GD K H kvs gs) (nd : (gs.map (·.1)).Nodup) (l v : Int) (z : V)
    (h1 : l ∉ gs.map (·.1) → Dp K H z (intsD [v])) (h2 : ∀ g, (l, g) ∈ gs → Dp K H z (intsD (g ++ [v]))) : GD K H (putK kvs (Sum.inl l) z) (addG gs l v) := by
  unfold addG
  rcases GD.val l h with ⟨n, e⟩ | ⟨x, g, m, e, _⟩
  · rw [if_neg n, putK_new _ e]
    exact GD.app ⟨rfl, h1 n⟩ h
  · have hin : l ∈ gs.map (·.1) := List.mem_map.mpr ⟨(l, g), m, rfl⟩
    rw [if_pos hin]
    unfold putK
    rw [if_pos (by rw [valV_any, e]; rfl)]
    refine GD.map l v z h fun g' hg' e' => ?_
    obtain ⟨l', g'⟩ := g'
    obtain rfl : l' = l := e'
    exact h2 g' hg'
theorem GD.at {H : Hp} : ∀ {kvs : List (Key × V)} {gs : List (Int × List Int)} {i : Nat} {kv : Key × V}, GD K H kvs gs → kvs[i]? = some kv → ∃ g, gs[i]? = some g ∧ kv.1 = Sum.inl g.1 ∧ Dp K H kv.2 (intsD g.2)
  | _, _, _, _, .nil, h => by simp at h
  | _, _, 0, _, .cons r t, h => by
    rw [List.getElem?_cons_zero] at h
    cases h
    exact ⟨_, List.getElem?_cons_zero, r⟩
  | _, _, i + 1, _, .cons r t, h => by
    rw [List.getElem?_cons_succ] at h
    obtain ⟨g, h1, h2⟩ := GD.at t h
    exact ⟨g, by rw [List.getElem?_cons_succ]; exact h1, h2⟩
theorem catD {H : Hp} {x y : V} {ds es : List PyData} {Q : VK} (hx : Dp K H x (.tuple ds)) (hy : Dp K H y (.tuple es)) (hl : ds.length + es.length ≤ 1000)
    (q : ∀ H' z, Same H H' → Dp K H' z (.tuple (ds ++ es)) → Q z H') : rCatA K x y H Q := by
  obtain ⟨a, xs, rfl, h1, a1⟩ := Dp.tupI hx
  obtain ⟨b, ys, rfl, h2, a2⟩ := Dp.tupI hy
  have l1 := DpAll.length a1
  have l2 := DpAll.length a2
  refine ⟨a, b, xs, ys, rfl, rfl, h1, h2, Nat.le_of_lt (small1000 (by omega)), fun e => ?_, fun _ e => ?_, fun _ _ p np => ?_⟩
  · subst e
    cases a1
    exact q H _ (Same.refl H) hy
  · subst e
    cases a2
    rw [List.append_nil] at q
    exact q H _ (Same.refl H) hx
  · have st := same_upd (o := .tup (xs ++ ys)) np
    exact q _ _ st (.tup (SqT.of upd_same) (DpAll.same st (DpAll.append a1 a2)))
theorem din {H : Hp} {L : Addr} {f : Int → Int} {ws : List Int} (hL : H L = some (.dK (tab f ws))) (a : Int) : DGet H L (.int a) (if a ∈ ws then some (.int (f a)) else none) := by
  rw [← tab_val]
  exact DGet.k (k := Sum.inl a) hL
theorem sortRows {H : Hp} {Q : VK} {a : Addr} {xs : List V} {bs : List (List Int)} (hS : SqL K H a xs) (hA : DpAll K H xs (bs.map intsD)) (ne : ∀ b ∈ bs, b ≠ [])
    (q : ∀ p ys, H p = none → DpAll K H ys ((bs.mergeSort (PySem.W.dataLe false intsD)).map intsD) → Q (.ref p) (upd H p (.lst ys))) : rSortD K [.ref a] H Q := by
  unfold rSortD
  have al : ∀ x y : List Int, PySem.W.alikeAll (x.map PyData.int) (y.map PyData.int) = true := by
    intro x
    induction x with
    | nil => intro y; cases y <;> simp [PySem.W.alikeAll]
    | cons n x ih =>
      intro y
      cases y with
      | nil => simp [PySem.W.alikeAll]
      | cons k y => simp [PySem.W.alikeAll, PySem.W.alike, ih y]
  refine ⟨List Int, intsD, bs, a, xs, rfl, hS, hA, ?_, .inl fun d hd => ?_, fun b _ => ?_, q⟩
  · intro d hd e he
    obtain ⟨x, _, rfl⟩ := List.mem_map.mp hd
    obtain ⟨y, _, rfl⟩ := List.mem_map.mp he
    simp only [intsD, PySem.W.alike]
    exact al x y
  · obtain ⟨x, hx, rfl⟩ := List.mem_map.mp hd
    cases x with
    | nil => exact absurd rfl (ne _ hx)
    | cons n r => exact ⟨_, _, rfl⟩
  · simp only [intsD, PyData.depth, dep_ints]
    decide
def partsD (gs : List (Int × List Int)) : PyData := .tuple (((gs.map (·.2)).mergeSort (PySem.W.dataLe false intsD)).map intsD)
def spPartsOf (K : PySem.W.Frag) : Sp := fun vs H Q _ => ∃ (x y : V) (m : Nat) (es : List (Int × Int)) (ws : List Int), vs = [x, y] ∧ m ≤ 12 ∧ IsFor m es ∧ Dp K H x (forD m es) ∧ Dp K H y (intsD ws) ∧ Asc ws ∧ ws.length ≤ 12 ∧
  ∀ (H' : Hp) (z : V) (f : Int → Int) (gs : List (Int × List Int)), Same H H' → Lab es ws f → Grp f ws gs → Dp K H' z (partsD gs) → Q z H'
theorem ok_PartsOf {f : Addr} {fd : FuncData} (F : Fun K "parts_of" "parts_of" sPartsOf f fd) (m_tuple : mg "tuple" = none) (m_sorted : mg "sorted" = none)
    (oMerged : Own P w K mg base "merged" 1 ["labels", "a", "b"] spMerged) : FnOk P w K mg base CX0 2 f fd ["forest", "vertices"] (spPartsOf K) := by
  refine F.ok scPartsOf (fun vs H Q E h => ?_) (fun cdv A outer s H vs Q E hr h => ?_)
  · obtain ⟨x, y, m, es, ws, rfl, _⟩ := h
    rfl
  · obtain ⟨x, y, m, es, ws, rfl, hm, isf, hx, hy, asc, lw, q⟩ := h
    obtain ⟨a, b, xs, rfl, ha, hb, hA⟩ := Dp.forI hx
    obtain ⟨c, rfl, hc⟩ := Dp.intsI hy
    have ec := isf.count
    have xl : xs.length = es.length := by rw [DpAll.length hA, List.length_map]
    refine ⟨_, (pss_cons (ps_asg (pv 0) (pgTK K (pgs_cons (pg_name (i := 2) scPartsOf.nd rfl (Or.inl rfl)) (pgs_cons (pg_name (i := 3) scPartsOf.nd rfl (Or.inl rfl)) pgs_nil))))
    (pss_cons (ps_setDc (i := 4) (own := [("vertex", 8)]) (g := (gName 8)) (tt := tYes) (by rfl) scPartsOf.nd rfl rfl (sw_trueD rfl rfl rfl (by decide +kernel)) (piTK K (pv 1))
      (blkOk_by (own := [("vertex", 8)]) (N := nPartsOf) (sc := (defScope sPartsOf)) (by decide +kernel))
      (fun _ _ _ _ _ => (pg_name (i := 8) scPartsOf.nd rfl (Or.inl rfl))) (fun _ _ _ _ _ => pts_nil)
      (fun _ _ _ _ _ => (pv 8))
      (fun _ _ _ _ _ => (pv 8)))
    (pss_cons (ps_for PassesOwn.never rfl (piTK K (pv 3)) (pgTK K (pgs_cons (pg_name (i := 5) scPartsOf.nd rfl (Or.inl rfl)) (pgs_cons (pg_name (i := 6) scPartsOf.nd rfl (Or.inl rfl)) pgs_nil)))
    (pss_one (ps_if (PW.pt (pw_and (pt_cmp (pc_din (hu_of hr) (pv 5) (pv 4))) (pw_and1 (pt_cmp (pc_din (hu_of hr) (pv 6) (pv 4)))))) (pss_one (ps_set (i := 4) scPartsOf.nd rfl (.inl rfl) (pe_own oMerged (hr.mono (by decide)) (by rfl) (pa_cons (pv 4) (pa_cons (pv 5) (pa_cons (pv 6) pa_nil)))))) pss_nil)))
    (pss_cons (ps_set (i := 7) scPartsOf.nd rfl (.inr rfl) pe_dnewK)
    (pss_cons (ps_for PassesOwn.never rfl (piTK K (pv 1)) (pg_name (i := 8) scPartsOf.nd rfl (Or.inl rfl))
    (pss_cons (ps_set (i := 9) scPartsOf.nd rfl (.inl rfl) (pe_dget (hu_of hr) (pv 4) (pv 8) (fun _ _ => rfl)))
    (pss_one (ps_dput (hu_of hr) (pv 7) (pv 9) (pe_op (catAK K) (pe_dget2 (hu_of hr) (pv 7) (pv 9) (pe_tup pa_nil) ⟨rfl, rfl, rfl, rfl⟩) (pe_tup (pa_cons (pv 8) pa_nil))) rfl))))
    (pss_one (ps_ret (pe_callTy (tupleK K) (by rfl) m_tuple (by decide +kernel) (pa_cons (pe_callB (sortK K hr.units) (by rfl) m_sorted (by decide +kernel) (pa_cons (pe_lock (pe_lc (own := [("label", 9)]) (g := (gName 9)) (tt := tYes) rfl scPartsOf.nd (pi_keys (pv 7))
      (blkOk_by (own := [("label", 9)]) (N := nPartsOf) (sc := (defScope sPartsOf)) (by decide +kernel))
      (fun _ _ _ _ _ => (pg_name (i := 9) scPartsOf.nd rfl (Or.inl rfl))) (fun _ _ _ _ _ => pts_nil)
      (fun _ _ _ _ _ => (pe_dget (hu_of hr) (pv 7) (pv 9) (fun _ _ => rfl))))) pa_nil)) pa_nil))))))))), ?_⟩
    refine ⟨.ref a, rfl, a, _, rfl, ha, rfl, _, _, rfl, _, _, rfl, rfl, ?_⟩
    -- labels
    refine ⟨.ref c, rfl, c, rfl, ⟨_, hc⟩, fun L0 nL0 => ?_⟩
    refine dc_tab id ws (fun v => [some (.ref a), some (.ref c), some (.int (m : Int)), some (.ref b), none, none, none, none, some (.int v), none]) asc.nodup nL0 (by omega) (fun j H' hj s1 => ⟨_, _, Same.tup s1 hc, List.getElem?_eq_getElem (by rw [List.length_map]; exact hj)⟩)
      (fun H' s1 => ⟨_, Same.tup s1 hc, by rw [List.length_map]; exact Nat.le_refl _⟩) (fun j v x H' H'' hv s1 y => ?_) (fun v => rfl) (fun v _ H' R s1 hR => ⟨.int v, rfl, hR⟩) (fun v _ H' R s1 hR => ⟨.int v, rfl, hR H' (Same.refl _)⟩) (fun H1 s1 e1 => ?_)
    · obtain ⟨e, hy⟩ := y
      have := hy _ (Same.tup s1 hc)
      rw [List.getElem?_map, hv] at this
      cases this
      exact ⟨e, fun Q q => q⟩
    -- the edges
    refine ⟨.ref b, rfl, b, rfl, ⟨_, Same.tup s1 hb⟩, for_tup (K := K) (a := b) (xs := xs) (fun i σ H' => ∃ (y5 y6 : Option V) (L : Addr) (f : Int → Int), σ = [some (.ref a), some (.ref c), some (.int (m : Int)), some (.ref b), some (.ref L), y5, y6, none, none, none] ∧
      Same H H' ∧ H' L = some (.dK (tab f ws)) ∧ Lab (es.take i) ws f) ?_ ?_ ?_ ?_⟩
    · exact ⟨none, none, L0, id, rfl, s1, e1, Lab.start ws⟩
    · rintro i σ H' _ ⟨y5, y6, L, f, rfl, s2, _⟩
      exact Same.tup s2 hb
    · rintro i v σ H2 hv ⟨y5, y6, L, f, rfl, s2, eL, lb⟩
      obtain ⟨z, hz, dz⟩ := DpAll.get hA hv
      rw [List.getElem?_map] at hz
      obtain ⟨p, hp, rfl⟩ := Option.map_eq_some_iff.mp hz
      obtain ⟨t, rfl, ht⟩ := Dp.prI (Dp.same s2 dz)
      have tk : es.take (i + 1) = es.take i ++ [p] := by rw [List.take_add_one, hp]; rfl
      refine ⟨t, _, rfl, ht, rfl, .int p.1, _, rfl, .int p.2, _, rfl, rfl, ?_⟩
      refine ⟨.int p.1, rfl, .ref L, rfl, L, _, rfl, din eL p.1, _, rfl, ?_⟩
      by_cases h1 : p.1 ∈ ws
      · rw [if_pos h1]
        refine iteT ⟨.int p.2, rfl, .ref L, rfl, L, _, rfl, din eL p.2, _, rfl, ?_⟩
        by_cases h2 : p.2 ∈ ws
        · rw [if_pos h2]
          refine iteT ⟨.ref L, rfl, .int p.1, rfl, .int p.2, rfl, L, f, ws, p.1, p.2, rfl, eL, asc.nodup, by omega, h1, h2, fun H3 L3 s3 n3 e3 => ?_⟩
          refine ⟨_, _, L3, mrg f p.1 p.2, rfl, s2.trans s3, e3, ?_⟩
          rw [tk]
          exact lb.merge h1 h2
        · rw [if_neg h2]
          refine iteF ⟨_, _, L, f, rfl, s2, eL, ?_⟩
          rw [tk]
          exact lb.skip fun z => h2 z.2
      · rw [if_neg h1]
        refine iteF (iteF ⟨_, _, L, f, rfl, s2, eL, ?_⟩)
        rw [tk]
        exact lb.skip fun z => h1 z.1
    · rintro σ H2 ⟨y5, y6, L, f, rfl, s2, eL, lb⟩
      rw [xl, List.take_length] at lb
      -- the groups
      refine fun G nG => ?_
      have nLG : L ≠ G := ne_of_none eL nG
      have nHG : H G = none := s2.free nG
      have sG := same_upd (o := .dK []) nG
      refine ⟨.ref c, rfl, c, rfl, ⟨_, Same.tup (s2.trans sG) hc⟩, for_tup (K := K) (a := c) (xs := ws.map V.int) (fun i σ H' => ∃ (y8 y9 : Option V) (kvs : List (Key × V)) (gs : List (Int × List Int)),
        σ = [some (.ref a), some (.ref c), some (.int (m : Int)), some (.ref b), some (.ref L), y5, y6, some (.ref G), y8, y9] ∧ Same H H' ∧ H' L = some (.dK (tab f ws)) ∧ H' G = some (.dK kvs) ∧ GD K H' kvs gs ∧ Grp f (ws.take i) gs) ?_ ?_ ?_ ?_⟩
      · exact ⟨none, none, [], [], rfl, s2.trans sG, sG _ _ eL, upd_same, .nil, Grp.start f⟩
      · rintro i σ H' _ ⟨y8, y9, kvs, gs, rfl, s3, _⟩
        exact Same.tup s3 hc
      · rintro i v σ H3 hv ⟨y8, y9, kvs, gs, rfl, s3, eL3, eG3, gd, gr⟩
        rw [List.getElem?_map] at hv
        obtain ⟨v, hv', rfl⟩ := Option.map_eq_some_iff.mp hv
        have mv : v ∈ ws := List.mem_of_getElem? hv'
        have gl := gr.len
        rw [List.length_take] at gl
        have dl := din eL3 v
        rw [if_pos mv] at dl
        refine ⟨.ref L, rfl, .int v, rfl, L, .int (f v), rfl, dl, ?_⟩
        refine ⟨.ref G, rfl, G, rfl, .inl ⟨_, .inl eG3⟩, .int (f v), rfl, Nat.zero_le _, fun e ne => ?_⟩
        have se := same_upd (o := .tup []) ne
        have ee := same_at (o := .tup []) ne
        refine ⟨_, DGet.k (k := Sum.inl (f v)) (se _ _ eG3), .int v, rfl, by show 1 ≤ sizeLine; decide, fun t nt => ?_⟩
        have st := same_upd (o := .tup [V.int v]) nt
        have set := se.trans st
        have hv1 : Dp K (upd (upd H3 e (.tup [])) t (.tup [V.int v])) (.ref t) (.tuple [.int v]) := .tup (SqT.of upd_same) (.cons (.int v) .nil)
        have old : ∃ g0 : List Int, Dp K (upd (upd H3 e (.tup [])) t (.tup [V.int v])) ((valV kvs (Sum.inl (f v))).getD (.ref e)) (intsD g0) ∧ g0.length ≤ 12 ∧ (f v ∉ gs.map (·.1) → g0 = []) ∧ ∀ g, (f v, g) ∈ gs → g = g0 := by
          rcases GD.val (f v) gd with ⟨n, en⟩ | ⟨x, g, hg, en, dx⟩
          · rw [en]
            exact ⟨[], .tup (SqT.of (st _ _ ee)) .nil, by decide, fun _ => rfl, fun g hg => absurd (List.mem_map.mpr ⟨_, hg, rfl⟩) n⟩
          · rw [en]
            refine ⟨g, Dp.same set dx, ?_, fun z => absurd (List.mem_map.mpr ⟨_, hg, rfl⟩) z, fun g' hg' => ?_⟩
            · have := (gr.is _ hg).1
              have l1 := List.length_filter_le (fun u => decide (f u = f v)) (ws.take i)
              rw [List.length_take] at l1
              rw [show g = (ws.take i).filter (fun u => decide (f u = f v)) from this]
              omega
            · rw [show g' = _ from (gr.is _ hg').1, show g = _ from (gr.is _ hg).1]
        obtain ⟨g0, d0, l0, n0, u0⟩ := old
        refine catD d0 hv1 (by rw [List.length_map]; show g0.length + 1 ≤ 1000; omega) fun H5 z s5 dz => ?_
        have s35 := set.trans s5
        have dz' : Dp K H5 z (intsD (g0 ++ [v])) := by
          unfold intsD
          rw [List.map_append]
          exact dz
        have eG5 := s35 _ _ eG3
        refine ⟨.ref G, rfl, .int (f v), rfl, G, _, rfl, DPut.k (k := Sum.inl (f v)) eG5 (by rw [gd.len]; exact small1000 (by omega)), ?_⟩
        have kt : KT K H5 (upd H5 G (.dK (putK kvs (Sum.inl (f v)) z))) := by
          intro h zs qh
          rcases qh with (qh | ⟨o, qh⟩) | qh
          · refine .inl (.inl ?_)
            rw [upd_ne fun y => by rw [y, eG5] at qh; cases qh]
            exact qh
          · refine .inl (.inr ⟨o, ?_⟩)
            rw [upd_ne fun y => by rw [y, eG5] at qh; cases qh]
            exact qh
          · exact .inr qh
        refine ⟨_, _, _, addG gs (f v) v, rfl, fun h o eh => ?_, ?_, upd_same, ?_, ?_⟩
        · rw [upd_ne (ne_of_none eh nHG)]
          exact s35 _ _ (s3 _ _ eh)
        · rw [upd_ne nLG]
          exact s35 _ _ eL3
        · refine GD.kt kt (GD.put (GD.kt (Same.kt s35) gd) gr.nd (f v) v z (fun n => ?_) (fun g hg => ?_))
          · rw [n0 n] at dz'
            exact dz'
          · rw [u0 g hg]
            exact dz'
        · rw [List.take_add_one, hv']
          exact gr.add v
      · rintro σ H3 ⟨y8, y9, kvs, gs, rfl, s3, eL3, eG3, gd, gr⟩
        rw [List.length_map, List.take_length] at gr
        have gl := gr.len
        -- the groups in order
        refine ⟨G, _, eG3, trivial, fun od => ?_⟩
        have eF : upd H3 G (.frz od (.dK kvs)) G = some (.frz od (.dK kvs)) := upd_same
        have ktF : KT K H3 (upd H3 G (.frz od (.dK kvs))) := by
          intro h zs qh
          rcases qh with (qh | ⟨o, qh⟩) | qh
          · refine .inl (.inl ?_)
            rw [upd_ne fun y => by rw [y, eG3] at qh; cases qh]
            exact qh
          · refine .inl (.inr ⟨o, ?_⟩)
            rw [upd_ne fun y => by rw [y, eG3] at qh; cases qh]
            exact qh
          · exact .inr qh
        have gdF := GD.kt ktF gd
        refine ⟨.ref G, rfl, G, od, rfl, .inl ⟨_, eF, fun D nD => ?_⟩⟩
        have nGD : G ≠ D := ne_of_none eF nD
        refine lc_gen (K := K) gs (fun g => [some (.ref a), some (.ref c), some (.int (m : Int)), some (.ref b), some (.ref L), y5, y6, some (.ref G), y8, some (.int g.1)]) (fun _ => true) (fun g => intsD g.2) nD
          (fun j H' hj s4 => ⟨s4 _ _ eF, by rw [gd.len]; exact hj⟩) (fun H' s4 => ⟨s4 _ _ eF, by rw [gd.len]; exact Nat.le_refl _⟩) (fun j g x H' H'' hg s4 y => ?_) (fun g => rfl) (fun g _ H' R s4 hR => hR H' (Same.refl _)) (fun g hg _ H' R s4 hR => ?_) (fun g => only_intsD _) (by omega) (fun H4 ys s4 eD dy => ?_)
        · obtain ⟨e, k, z, hk, hx⟩ := y
          obtain ⟨g', hg', e1, _⟩ := GD.at gd hk
          rw [hg] at hg'
          cases hg'
          have e1 : k = Sum.inl g.1 := e1
          rw [e1] at hx
          subst hx
          exact ⟨e, fun Q q => q⟩
        · rcases GD.val g.1 (GD.kt (Same.kt s4) gdF) with ⟨n, _⟩ | ⟨z, g', hg', ez, dz⟩
          · exact absurd (List.mem_map.mpr ⟨g, hg, rfl⟩) n
          · have eg : g' = g.2 := by rw [show g' = _ from (gr.is _ hg').1, (gr.is _ hg).1]
            rw [eg] at dz
            refine ⟨.ref G, rfl, .int g.1, rfl, G, z, rfl, ?_, hR H' z (Same.refl _) dz⟩
            rw [← ez]
            exact .inl ⟨kvs, Sum.inl g.1, .inr ⟨od, s4 _ _ eF⟩, rfl, rfl⟩
        refine ⟨s4 _ _ eF, ?_⟩
        have sB : Same H (upd H4 G (.dK kvs)) := fun h o eh => by
          have nh : h ≠ G := ne_of_none eh nHG
          rw [upd_ne nh]
          refine s4 _ _ ?_
          rw [upd_ne nh]
          exact s3 _ _ eh
        have ktB : KT K H4 (upd H4 G (.dK kvs)) := by
          intro h zs qh
          rcases qh with (qh | ⟨o, qh⟩) | qh
          · refine .inl (.inl ?_)
            rw [upd_ne fun y => by rw [y, s4 _ _ eF] at qh; cases qh]
            exact qh
          · refine .inl (.inr ⟨o, ?_⟩)
            rw [upd_ne fun y => by rw [y, s4 _ _ eF] at qh; cases qh]
            exact qh
          · exact .inr qh
        have e5 : (gs.filter fun _ => true) = gs := List.filter_eq_self.mpr fun _ _ => rfl
        have ao : ∀ l : List (Int × List Int), onlyAll (l.map fun g => intsD g.2) = true := onlyAll_map fun g => only_intsD _
        have dB : DpAll K (upd H4 G (.dK kvs)) ys ((gs.map (·.2)).map intsD) := by
          rw [List.map_map]
          rw [e5] at dy
          exact DpAll.kt ktB dy (ao gs)
        refine sortRows (bs := gs.map (·.2)) (SqL.of (by rw [upd_ne nGD.symm]; exact eD)) dB (fun g hg => ?_) fun p zs np dz => ?_
        · obtain ⟨g0, hg0, rfl⟩ := List.mem_map.mp hg
          exact (gr.is g0 hg0).2
        have s6 := same_upd (o := .lst zs) np
        refine ⟨p, zs, rfl, .inl ⟨SqL.of upd_same, fun t nt => ?_⟩⟩
        have s7 := same_upd (o := .tup zs) nt
        exact q _ _ f gs ((sB.trans s6).trans s7) lb gr (.tup (SqT.of upd_same) (DpAll.same (s6.trans s7) dz))
/-! ### parts by rows -/
def row (es : List (Int × Int)) (ws : List Int) (v : Int) : List Int := srtI (passes (within es ws) v (within es ws).length)
theorem rows_of {H : Hp} : ∀ {ys : List V} {bs : List (List Int)}, DpAll K H ys (bs.map intsD) → ∃ ks : List (Addr × List Int), ys = ks.map (fun p => V.ref p.1) ∧ ks.map (·.2) = bs ∧ ∀ p ∈ ks, SqT K H p.1 (p.2.map V.int)
  | [], [], _ => ⟨[], rfl, rfl, fun _ z => nomatch z⟩
  | _ :: _, b :: bs, .cons h a => by
    obtain ⟨c, rfl, hc⟩ := Dp.intsI h
    obtain ⟨ks, e1, e2, h3⟩ := rows_of a
    refine ⟨(c, b) :: ks, by rw [List.map_cons, e1], by rw [List.map_cons, e2], fun p hp => ?_⟩
    rcases List.mem_cons.mp hp with z | z
    · rw [z]; exact hc
    · exact h3 p z
theorem parts_eq {es : List (Int × Int)} {ws : List Int} {f : Int → Int} {gs : List (Int × List Int)} {rows : List (List Int)} (lab : Lab es ws f) (gr : Grp f ws gs) (asc : Asc ws) (nd : rows.Nodup) (mem : ∀ r, r ∈ rows ↔ r ∈ ws.map (row es ws)) :
    PyData.tuple ((rows.mergeSort (PySem.W.dataLe false intsD)).map intsD) = partsD gs := by
  unfold partsD
  have key : ∀ g ∈ gs, ∀ x, x ∈ g.2 ↔ x ∈ ws ∧ f x = g.1 := fun g hg x => by
    rw [(gr.is g hg).1, List.mem_filter, decide_eq_true_eq]
  have some : ∀ g ∈ gs, ∃ x, x ∈ g.2 := fun g hg => List.exists_mem_of_ne_nil _ (gr.is g hg).2
  have ng : (gs.map (·.2)).Nodup := by
    refine List.pairwise_map.mpr (List.Pairwise.imp_of_mem (fun {g g'} hg hg' hne e => ?_) (List.pairwise_map.mp gr.nd))
    obtain ⟨x, hx⟩ := some g hg
    have h1 := ((key g hg x).mp hx).2
    rw [e] at hx
    exact hne (h1.symm.trans ((key g' hg' x).mp hx).2)
  have rw1 : ∀ v ∈ ws, row es ws v = ws.filter fun u => decide (f u = f v) := fun v hv => group_eq lab asc hv
  rw [rows_sort ((List.perm_ext_iff_of_nodup nd ng).mpr fun r => (mem r).trans ⟨fun hr => ?_, fun hr => ?_⟩)]
  · obtain ⟨v, hv, rfl⟩ := List.mem_map.mp hr
    obtain ⟨g, hg, e⟩ := List.mem_map.mp (gr.all v hv)
    refine List.mem_map.mpr ⟨g, hg, ?_⟩
    rw [rw1 v hv, (gr.is g hg).1, e]
  · obtain ⟨g, hg, rfl⟩ := List.mem_map.mp hr
    obtain ⟨x, hx⟩ := some g hg
    obtain ⟨h1, h2⟩ := (key g hg x).mp hx
    refine List.mem_map.mpr ⟨x, h1, ?_⟩
    rw [rw1 x h1, (gr.is g hg).1, h2]
theorem sub_small {m : Nat} {ws : List Int} (h : ws.Sublist (rng m)) (hm : m ≤ 12) : Asc ws ∧ ws.length ≤ 12 ∧ ∀ v ∈ ws, sm v := by
  refine ⟨List.Pairwise.sublist h (rng_asc m), ?_, fun v hv => ?_⟩
  · have := h.length_le
    rw [rng_length] at this
    omega
  · have := mem_rng.mp (h.subset hv)
    unfold TL.sm
    omega
theorem parts_show {f : Int → Int} {ws : List Int} {gs : List (Int × List Int)} (gr : Grp f ws gs) (lw : ws.length ≤ 12) (hs : ∀ v ∈ ws, sm v) : Shows (partsD gs) := by
  have lg := gr.len
  refine (Sm.tup (n := 12 * 11) (k := 1) (m := 12) (fun d hd => ?_) (by rw [List.length_map, List.length_mergeSort, List.length_map]; omega)).shows (by decide) (by decide)
  obtain ⟨r, hr, rfl⟩ := List.mem_map.mp hd
  obtain ⟨g, hg, rfl⟩ := List.mem_map.mp ((List.mergeSort_perm _ _).mem_iff.mp hr)
  have e := (gr.is g hg).1
  refine Sm.ints (fun v hv => ?_) ?_
  · rw [e] at hv
    exact hs v (List.mem_filter.mp hv).1
  · rw [e]
    have := List.length_filter_le (fun v => decide (f v = g.1)) ws
    omega
theorem fmFree {d l a : Addr} {H H' : Hp} (h : Fm d l H H') (n : H' a = none) (h1 : a ≠ d) (h2 : a ≠ l) : H a = none := by
  cases e : H a with
  | none => rfl
  | some o =>
    have := h a o h1 h2 e
    rw [n] at this
    cases this
/-! ### the program: pieces -/
def ap (m : Nat) (es : List (Int × Int)) (L : List Int) (v : Int) : Bool := !decide (v ∈ L) && !((nearL m es v).any fun o => decide (o ∈ L))
theorem ap_iff {m : Nat} {es : List (Int × Int)} {L : List Int} {v : Int} : ap m es L v = true ↔ v ∉ L ∧ ∀ o ∈ nearL m es v, o ∉ L := by
  unfold ap
  rw [Bool.and_eq_true, Bool.not_eq_true', Bool.not_eq_true', decide_eq_false_iff_not, List.any_eq_false]
  exact ⟨fun h => ⟨h.1, fun o ho z => h.2 o ho (decide_eq_true z)⟩, fun h => ⟨h.1, fun o ho z => h.2 o ho (of_decide_eq_true z)⟩⟩
def spIsApart (K : PySem.W.Frag) : Sp := fun vs H Q _ => ∃ (x y : V) (m : Nat) (es : List (Int × Int)) (L : List Int) (v : Int), vs = [x, y, .int v] ∧ m ≤ 12 ∧ IsFor m es ∧ Dp K H x (forD m es) ∧ Dp K H y (intsD L) ∧ ∀ H', Same H H' → Q (.bl (ap m es L v)) H'
theorem DpAll.boolsT {H : Hp} : ∀ {xs : List V} {bs : List Bool}, DpAll K H xs (bs.map .bool) → xs = bs.map V.bl
  | [], [], _ => rfl
  | _ :: _, b :: bs, .cons h a => by
    cases h
    rw [DpAll.boolsT a]
    rfl
theorem ok_IsApart {f : Addr} {fd : FuncData} (F : Fun K "is_apart" "is_apart" sIsApart f fd) (m_any : mg "any" = none) (oNeighboursOf : Own P w K mg base "neighbours_of" 1 ["forest", "vertex"] (spNeighboursOf K)) :
    FnOk P w K mg base CX0 2 f fd ["forest", "lock", "vertex"] (spIsApart K) := by
  refine F.ok scIsApart (fun vs H Q E h => ?_) (fun cdv A outer s H vs Q E hr h => ?_)
  · obtain ⟨x, y, m, es, L, v, rfl, _⟩ := h
    rfl
  · obtain ⟨x, y, m, es, L, v, rfl, hm, isf, hx, hy, q⟩ := h
    obtain ⟨c, rfl, hc⟩ := Dp.intsI hy
    refine ⟨_, (pss_one (ps_ret (pe_and (pe_cmpR (notInK K) (pv 2) (pv 1) (by rfl)) (pe_one (pe_not (pe_callB (anyK K rfl) (by rfl) m_any (by decide +kernel) (pa_cons (pe_lc (own := [("other", 3)]) (g := (gName 3)) (tt := tYes) rfl scIsApart.nd (piTK K (pe_own oNeighboursOf (hr.mono (by decide)) (by rfl) (pa_cons (pv 0) (pa_cons (pv 2) pa_nil))))
      (blkOk_by (own := [("other", 3)]) (N := nIsApart) (sc := (defScope sIsApart)) (by decide +kernel))
      (fun _ _ _ _ _ => (pg_name (i := 3) scIsApart.nd rfl (Or.inl rfl))) (fun _ _ _ _ _ => pts_nil)
      (fun _ _ _ _ _ => (pe_cmpR (inK K) (pv 3) (pv 1) (by rfl)))) pa_nil))))))), ?_⟩
    refine ⟨.int v, rfl, .ref c, rfl, c, L.map V.int, rfl, .inr hc, rfl, flat_ints L, _, rfl, ?_⟩
    show if (if true = true then !inV (V.int v) (L.map V.int) else _) = true then _ else _
    rw [if_pos rfl, inV_ints]
    have nl := nearL_len m es v
    by_cases hv : v ∈ L
    · rw [decide_eq_true hv]
      refine iteF ?_
      have := q H (Same.refl _)
      unfold ap at this
      rw [decide_eq_true hv] at this
      exact this
    · rw [decide_eq_false hv]
      refine iteT ⟨x, rfl, .int v, rfl, x, m, es, v, rfl, hm, isf, hx, fun H1 n s1 dn => ?_⟩
      obtain ⟨a, rfl, ha⟩ := Dp.intsI dn
      refine ⟨a, rfl, ⟨_, ha⟩, fun D nD => ?_⟩
      refine lc_tupI (K := K) (fun _ => true) (fun o => .bool (decide (o ∈ L))) nD ha (fun _ => rfl) (fun o _ H' R s2 hR => hR H' (Same.refl _)) (fun o _ _ H' R s2 hR => ?_) (fun o => by simp [only]) (by omega) (fun H2 ys s2 eD dy => ?_)
      · refine ⟨.int o, rfl, .ref c, rfl, c, L.map V.int, rfl, .inr (Same.tup (s1.trans s2) hc), rfl, flat_ints L, ?_⟩
        show R (.bl (if false = true then _ else inV (V.int o) (L.map V.int))) _
        rw [if_neg Bool.false_ne_true, inV_ints]
        exact hR H' _ (Same.refl _) (.bl _)
      rw [filt_true] at dy
      have e1 : ys = ((nearL m es v).map fun o => decide (o ∈ L)).map V.bl := DpAll.boolsT (by rw [List.map_map]; exact dy)
      subst e1
      refine ⟨D, _, rfl, SqL.of eD, _, rfl, ?_⟩
      have := q H2 (s1.trans s2)
      unfold ap at this
      rw [decide_eq_false hv] at this
      rw [List.any_map]
      exact this
def spPiecesOf (K : PySem.W.Frag) : Sp := fun vs H Q _ => ∃ (x y : V) (m : Nat) (es : List (Int × Int)) (L : List Int), vs = [x, y] ∧ m ≤ 12 ∧ IsFor m es ∧ Dp K H x (forD m es) ∧ Dp K H y (intsD L) ∧
  ∀ (H' : Hp) (z : V) (f : Int → Int) (gs : List (Int × List Int)), Same H H' → Lab es ((rng m).filter (ap m es L)) f → Grp f ((rng m).filter (ap m es L)) gs → Dp K H' z (partsD gs) → Q z H'
theorem ok_PiecesOf {f : Addr} {fd : FuncData} (F : Fun K "pieces_of" "pieces_of" sPiecesOf f fd) (m_range : mg "range" = none) (m_tuple : mg "tuple" = none) (oIsApart : Own P w K mg base "is_apart" 2 ["forest", "lock", "vertex"] (spIsApart K)) (oPartsOf : Own P w K mg base "parts_of" 2 ["forest", "vertices"] (spPartsOf K)) :
    FnOk P w K mg base CX0 3 f fd ["forest", "lock"] (spPiecesOf K) := by
  refine F.ok scPiecesOf (fun vs H Q E h => ?_) (fun cdv A outer s H vs Q E hr h => ?_)
  · obtain ⟨x, y, m, es, L, rfl, _⟩ := h
    rfl
  · obtain ⟨x, y, m, es, L, rfl, hm, isf, hx, hy, q⟩ := h
    obtain ⟨a, b, xs, rfl, ha, hb, hA⟩ := Dp.forI hx
    refine ⟨_, (pss_cons (ps_asg (pv 0) (pgTK K (pgs_cons (pg_name (i := 2) scPiecesOf.nd rfl (Or.inl rfl)) (pgs_cons (pg_name (i := 3) scPiecesOf.nd rfl (Or.inl rfl)) pgs_nil))))
    (pss_one (ps_ret (pe_own oPartsOf (hr.mono (by decide)) (by rfl) (pa_cons (pv 0) (pa_cons (pe_callTy (tupleK K) (by rfl) m_tuple (by decide +kernel) (pa_cons (pe_lc (own := [("vertex", 4)]) (g := (gName 4)) rfl scPiecesOf.nd (pi_range1 (by rfl) m_range (pa_cons (pv 2) pa_nil))
      (blkOk_by (own := [("vertex", 4)]) (N := nPiecesOf) (sc := (defScope sPiecesOf)) (by decide +kernel))
      (fun _ _ _ _ _ => (pg_name (i := 4) scPiecesOf.nd rfl (Or.inl rfl))) (fun _ _ _ _ _ => (pts_one (pt_val (pe_own oIsApart (hr.mono (by decide)) (by rfl) (pa_cons (pv 0) (pa_cons (pv 1) (pa_cons (pv 4) pa_nil)))))))
      (fun _ _ _ _ _ => (pv 4))) pa_nil)) pa_nil)))))), ?_⟩
    refine ⟨.ref a, rfl, a, _, rfl, ha, rfl, _, _, rfl, _, _, rfl, rfl, ?_⟩
    refine ⟨.ref a, rfl, .int (m : Int), rfl, (m : Int), rfl, by omega, by omega, fun D nD => ?_⟩
    rw [Int.toNat_natCast]
    refine lc_rng (K := K) (ap m es L) .int nD (fun _ => rfl) (fun o _ H' R s1 hR => ?_) (fun o _ _ H' R s1 hR => ⟨.int o, rfl, hR H' _ (Same.refl _) (.int o)⟩) only_int (by omega) (fun H1 ys s1 eD dy => ?_)
    · exact ⟨.ref a, rfl, y, rfl, .int o, rfl, .ref a, y, m, es, L, o, rfl, hm, isf, Dp.same s1 hx, Dp.same s1 hy, fun H2 s2 => ⟨_, rfl, hR H2 s2⟩⟩
    rw [lst_ints dy] at eD
    have asc : Asc ((rng m).filter (ap m es L)) := (rng_asc m).filter _
    have ll := List.length_filter_le (ap m es L) (rng m)
    rw [rng_length] at ll
    refine ⟨D, _, rfl, .inl ⟨SqL.of eD, fun t nt => ?_⟩⟩
    have st := same_upd (o := .tup (((rng m).filter (ap m es L)).map V.int)) nt
    refine ⟨.ref a, .ref t, m, es, (rng m).filter (ap m es L), rfl, hm, isf, Dp.same (s1.trans st) hx, Dp.ints (SqT.of upd_same), asc, by omega, fun H2 z f gs s2 lab gr dz => ?_⟩
    exact q _ _ f gs ((s1.trans st).trans s2) lab gr dz
/-! ### lamps counted in pieces -/
def pcs (gs : List (Int × List Int)) : List (List Int) := (gs.map (·.2)).mergeSort (PySem.W.dataLe false intsD)
theorem grp_rows {es : List (Int × Int)} {ws : List Int} {f : Int → Int} {gs : List (Int × List Int)} (lab : Lab es ws f) (gr : Grp f ws gs) (asc : Asc ws) : (gs.map (·.2)).Nodup ∧ ∀ r, r ∈ gs.map (·.2) ↔ r ∈ ws.map (row es ws) := by
  have key : ∀ g ∈ gs, ∀ x, x ∈ g.2 ↔ x ∈ ws ∧ f x = g.1 := fun g hg x => by
    rw [(gr.is g hg).1, List.mem_filter, decide_eq_true_eq]
  have some : ∀ g ∈ gs, ∃ x, x ∈ g.2 := fun g hg => List.exists_mem_of_ne_nil _ (gr.is g hg).2
  have rw1 : ∀ v ∈ ws, row es ws v = ws.filter fun u => decide (f u = f v) := fun v hv => group_eq lab asc hv
  refine ⟨?_, fun r => ⟨fun hr => ?_, fun hr => ?_⟩⟩
  · refine List.pairwise_map.mpr (List.Pairwise.imp_of_mem (fun {g g'} hg hg' hne e => ?_) (List.pairwise_map.mp gr.nd))
    obtain ⟨x, hx⟩ := some g hg
    have h1 := ((key g hg x).mp hx).2
    rw [e] at hx
    exact hne (h1.symm.trans ((key g' hg' x).mp hx).2)
  · obtain ⟨g, hg, rfl⟩ := List.mem_map.mp hr
    obtain ⟨x, hx⟩ := some g hg
    obtain ⟨h1, h2⟩ := (key g hg x).mp hx
    refine List.mem_map.mpr ⟨x, h1, ?_⟩
    rw [rw1 x h1, (gr.is g hg).1, h2]
  · obtain ⟨v, hv, rfl⟩ := List.mem_map.mp hr
    obtain ⟨g, hg, e⟩ := List.mem_map.mp (gr.all v hv)
    refine List.mem_map.mpr ⟨g, hg, ?_⟩
    rw [rw1 v hv, (gr.is g hg).1, e]
theorem pcs_eq {es : List (Int × Int)} {ws : List Int} {f f' : Int → Int} {gs gs' : List (Int × List Int)} (lab : Lab es ws f) (gr : Grp f ws gs) (lab' : Lab es ws f') (gr' : Grp f' ws gs') (asc : Asc ws) : pcs gs = pcs gs' := by
  obtain ⟨n1, m1⟩ := grp_rows lab gr asc
  obtain ⟨n2, m2⟩ := grp_rows lab' gr' asc
  exact rows_sort ((List.perm_ext_iff_of_nodup n1 n2).mpr fun r => (m1 r).trans (m2 r).symm)
theorem len_or {p q : Int → Bool} : ∀ S : List Int, (∀ x ∈ S, ¬ (p x = true ∧ q x = true)) → (S.filter p).length + (S.filter q).length = (S.filter fun x => p x || q x).length
  | [], _ => rfl
  | a :: S, h => by
    have ih := len_or S fun x hx => h x (List.mem_cons_of_mem _ hx)
    have ha := h a List.mem_cons_self
    cases e1 : p a <;> cases e2 : q a
    · simp only [List.filter_cons, e1, e2, Bool.or_self, Bool.false_eq_true, if_false]
      exact ih
    · simp only [List.filter_cons, e1, e2, Bool.false_or, Bool.false_eq_true, if_false, if_true, List.length_cons]
      omega
    · simp only [List.filter_cons, e1, e2, Bool.or_false, Bool.false_eq_true, if_false, if_true, List.length_cons]
      omega
    · exact absurd ⟨e1, e2⟩ ha
theorem sum_cnt (S : List Int) : ∀ bs : List (List Int), bs.Pairwise (fun a b => ∀ x ∈ a, x ∉ b) → (cnt bs S).sum = (((S.filter fun x => bs.any fun b => decide (x ∈ b)).length : Nat) : Int)
  | [], _ => by
    have e : (S.filter fun x => ([] : List (List Int)).any fun b => decide (x ∈ b)) = [] := List.filter_eq_nil_iff.mpr fun x _ z => by cases z
    rw [e]
    rfl
  | b :: bs, h => by
    have h' := List.pairwise_cons.mp h
    have ih := sum_cnt S bs h'.2
    have e : cnt (b :: bs) S = (((S.filter fun l => decide (l ∈ b)).length : Nat) : Int) :: cnt bs S := rfl
    rw [e, List.sum_cons, ih]
    have := len_or (p := fun x => decide (x ∈ b)) (q := fun x => bs.any fun c => decide (x ∈ c)) S fun x _ z => by
      obtain ⟨z1, z2⟩ := z
      obtain ⟨c, hc, z3⟩ := List.any_eq_true.mp z2
      exact h'.1 c hc x (of_decide_eq_true z1) (of_decide_eq_true z3)
    have e2 : (S.filter fun x => (b :: bs).any fun c => decide (x ∈ c)) = S.filter fun x => decide (x ∈ b) || bs.any fun c => decide (x ∈ c) := List.filter_congr fun x _ => by rw [List.any_cons]
    rw [e2, ← this]
    omega
theorem pcs_mem {gs : List (Int × List Int)} {b : List Int} : b ∈ pcs gs ↔ b ∈ gs.map (·.2) := (List.mergeSort_perm _ _).mem_iff
theorem pcs_dis {ws : List Int} {f : Int → Int} {gs : List (Int × List Int)} (gr : Grp f ws gs) : (pcs gs).Pairwise (fun a b => ∀ x ∈ a, x ∉ b) := by
  have h : (gs.map (·.2)).Pairwise (fun a b => ∀ x ∈ a, x ∉ b) := by
    refine List.pairwise_map.mpr (List.Pairwise.imp_of_mem (fun {g g'} hg hg' hne x hx hx' => ?_) (List.pairwise_map.mp gr.nd))
    rw [(gr.is g hg).1, List.mem_filter, decide_eq_true_eq] at hx
    rw [(gr.is g' hg').1, List.mem_filter, decide_eq_true_eq] at hx'
    exact hne (hx.2.symm.trans hx'.2)
  exact (List.mergeSort_perm (gs.map (·.2)) (PySem.W.dataLe false intsD)).symm.pairwise h fun {a b} hab x hx hx' => hab x hx' hx
theorem cnt_sum {m : Nat} {es : List (Int × Int)} {S L : List Int} {f : Int → Int} {gs : List (Int × List Int)} (isf : IsFor m es) (iss : IsSet m es S) (ascL : Asc L) (sub : ∀ x ∈ L, x ∈ S) (gr : Grp f ((rng m).filter (ap m es L)) gs) :
    (cnt (pcs gs) S).sum + (L.length : Int) = (S.length : Int) := by
  rw [sum_cnt S _ (pcs_dis gr)]
  have e1 : (S.filter fun x => (pcs gs).any fun b => decide (x ∈ b)) = S.filter fun x => !decide (x ∈ L) := List.filter_congr fun x hx => by
    rw [Bool.eq_iff_iff, List.any_eq_true, Bool.not_eq_true', decide_eq_false_iff_not]
    constructor
    · rintro ⟨b, hb, hxb⟩
      obtain ⟨g, hg, rfl⟩ := List.mem_map.mp (pcs_mem.mp hb)
      have := of_decide_eq_true hxb
      rw [(gr.is g hg).1, List.mem_filter, List.mem_filter] at this
      exact (ap_iff.mp this.1.2).1
    · intro hn
      have hw : x ∈ (rng m).filter (ap m es L) := List.mem_filter.mpr ⟨mem_rng.mpr (iss.rng x hx), ap_iff.mpr ⟨hn, fun o ho z => iss.free o (sub o z) x hx (mem_nearL.mp ho).2⟩⟩
      obtain ⟨g, hg, e⟩ := List.mem_map.mp (gr.all x hw)
      refine ⟨g.2, pcs_mem.mpr (List.mem_map.mpr ⟨g, hg, rfl⟩), decide_eq_true ?_⟩
      rw [(gr.is g hg).1, List.mem_filter, decide_eq_true_eq]
      exact ⟨hw, e.symm⟩
  have e2 : S.filter (fun x => decide (x ∈ L)) = L := asc_ext (iss.asc.filter _) ascL fun x => by
    rw [List.mem_filter, decide_eq_true_eq]
    exact ⟨fun z => z.2, fun z => ⟨sub x z, z⟩⟩
  have e3 := len_or (p := fun x => !decide (x ∈ L)) (q := fun x => decide (x ∈ L)) S fun x _ z => by
    obtain ⟨z1, z2⟩ := z
    rw [z2] at z1
    cases z1
  have e4 : (S.filter fun x => (!decide (x ∈ L)) || decide (x ∈ L)) = S := List.filter_eq_self.mpr fun x _ => by cases decide (x ∈ L) <;> rfl
  rw [e2, e4] at e3
  rw [e1]
  omega
/-- a slide stays in its piece -/
theorem cnt_slideW {m : Nat} {es : List (Int × Int)} {S L : List Int} {u v : Int} {f : Int → Int} {gs : List (Int × List Int)} (isf : IsFor m es) (iss : IsSet m es S) (sub : ∀ x ∈ L, x ∈ S) (cl : Cl m es L) (lab : Lab es ((rng m).filter (ap m es L)) f) (gr : Grp f ((rng m).filter (ap m es L)) gs) (p : (u, v) ∈ slidesP m es S) :
    cnt (pcs gs) (after S u v) = cnt (pcs gs) S ∧ ∀ x ∈ L, x ∈ after S u v := by
  obtain ⟨hu, hv, ho⟩ := mem_slidesP.mp p
  have nu : u ∉ L := fun z => by
    obtain ⟨y, y1, y2, y3⟩ := cl.other z hv
    have : y ∈ oth m es S u v := mem_oth.mpr ⟨y3, sub y y1, y2⟩
    rw [ho] at this
    cases this
  have nv := adj_free iss hu hv
  have au : u ∈ (rng m).filter (ap m es L) := List.mem_filter.mpr ⟨mem_rng.mpr (iss.rng u hu), ap_iff.mpr ⟨nu, fun o h1 z => iss.free o (sub o z) u hu (mem_nearL.mp h1).2⟩⟩
  have av : v ∈ (rng m).filter (ap m es L) := List.mem_filter.mpr ⟨mem_rng.mpr (mem_nearL.mp hv).1, ap_iff.mpr ⟨fun z => nv (sub v z), fun o h1 z => by
    by_cases e : o = u
    · exact nu (e ▸ z)
    · have : o ∈ oth m es S u v := mem_oth.mpr ⟨h1, sub o z, e⟩
      rw [ho] at this
      cases this⟩⟩
  have e : f u = f v := by
    rcases isf.mem_ord.mp (mem_nearL.mp hv).2 with z | z
    · exact (lab.join _ z av au).symm
    · exact lab.join _ z au av
  refine ⟨?_, fun x hx => mem_after.mpr (.inl ⟨sub x hx, fun z => nu (z ▸ hx)⟩)⟩
  unfold cnt
  refine List.map_congr_left fun b hb0 => ?_
  obtain ⟨g, hg, rfl⟩ := List.mem_map.mp (pcs_mem.mp hb0)
  have key : ∀ x, x ∈ g.2 ↔ x ∈ (rng m).filter (ap m es L) ∧ f x = g.1 := fun x => by
    rw [(gr.is g hg).1, List.mem_filter (p := fun v => decide (f v = g.1)), decide_eq_true_eq]
  have uv : u ∈ g.2 ↔ v ∈ g.2 := by
    rw [key, key, e]
    exact ⟨fun z => ⟨av, z.2⟩, fun z => ⟨au, z.2⟩⟩
  have h1 : (after S u v).Perm (S.map fun l => if l = u then v else l) := (srtI_perm _).trans (move_perm iss.asc.nodup hu).symm
  rw [(h1.filter _).length_eq, List.filter_map, List.length_map]
  congr 2
  refine List.filter_congr fun l _ => ?_
  show decide ((if l = u then v else l) ∈ g.2) = _
  split
  · rename_i h
    rw [h]
    exact decide_eq_decide.mpr uv.symm
  · rfl
theorem cnt_walkW {m : Nat} {es : List (Int × Int)} {L : List Int} {f : Int → Int} {gs : List (Int × List Int)} (isf : IsFor m es) (cl : Cl m es L) (lab : Lab es ((rng m).filter (ap m es L)) f) (gr : Grp f ((rng m).filter (ap m es L)) gs) :
    ∀ {ps : List (Int × Int)} {S T : List Int}, IsSet m es S → (∀ x ∈ L, x ∈ S) → walk m es S ps = some T → cnt (pcs gs) T = cnt (pcs gs) S
  | [], S, T, i, _, h => by cases h; rfl
  | p :: ps, S, T, i, sub, h => by
    obtain ⟨h1, h2⟩ := walk_cons h
    obtain ⟨h3, h4⟩ := cnt_slideW isf i sub cl lab gr (u := p.1) (v := p.2) h1
    rw [cnt_walkW isf cl lab gr (IsSet.slide isf i h1) h4 h2]
    exact h3
/-! ### the program: counts -/
def spLampsIn (K : PySem.W.Frag) : Sp := fun vs H Q _ => ∃ (y z : V) (S b : List Int), vs = [y, z] ∧ Dp K H y (intsD S) ∧ Dp K H z (intsD b) ∧ S.length ≤ 12 ∧ ∀ (H' : Hp) (r : V), Same H H' → Dp K H' r (intsD (S.filter fun l => decide (l ∈ b))) → Q r H'
theorem ok_LampsIn {f : Addr} {fd : FuncData} {k : Nat} (F : Fun K "lamps_in" "lamps_in" sLampsIn f fd) (m_tuple : mg "tuple" = none) : FnOk P w K mg base CX0 (k + 1) f fd ["setting", "piece"] (spLampsIn K) := by
  refine F.ok scLampsIn (fun vs H Q E h => ?_) (fun cdv A outer s H vs Q E hr h => ?_)
  · obtain ⟨y, z, S, b, rfl, _⟩ := h
    rfl
  · obtain ⟨y, z, S, b, rfl, hy, hz, lS, q⟩ := h
    obtain ⟨c, rfl, hc⟩ := Dp.intsI hy
    obtain ⟨e, rfl, he⟩ := Dp.intsI hz
    refine ⟨_, (pss_one (ps_ret (pe_callTy (tupleK K) (by rfl) m_tuple (by decide +kernel) (pa_cons (pe_lc (own := [("lamp", 2)]) (g := (gName 2)) rfl scLampsIn.nd (piTK K (pv 0))
      (blkOk_by (own := [("lamp", 2)]) (N := nLampsIn) (sc := (defScope sLampsIn)) (by decide +kernel))
      (fun _ _ _ _ _ => (pg_name (i := 2) scLampsIn.nd rfl (Or.inl rfl))) (fun _ _ _ _ _ => (pts_one (pt_cmpR (inK K) (pv 2) (pv 1) (by rfl))))
      (fun _ _ _ _ _ => (pv 2))) pa_nil)))), ?_⟩
    refine ⟨.ref c, rfl, c, rfl, ⟨_, hc⟩, fun D nD => ?_⟩
    refine lc_tupI (K := K) (fun o => decide (o ∈ b)) .int nD hc (fun _ => rfl) (fun o _ H' R s2 hR => ?_) (fun o _ _ H' R s2 hR => ⟨.int o, rfl, hR H' _ (Same.refl _) (.int o)⟩) only_int (by omega) (fun H2 ys s2 eD dy => ?_)
    · refine ⟨.int o, rfl, .ref e, rfl, e, b.map V.int, rfl, .inr (Same.tup s2 he), rfl, flat_ints b, _, rfl, ?_⟩
      show R (if false = true then _ else inV (V.int o) (b.map V.int)) _
      rw [if_neg Bool.false_ne_true, inV_ints]
      exact hR _ (Same.refl _)
    rw [lst_ints dy] at eD
    refine ⟨D, _, rfl, .inl ⟨SqL.of eD, fun t nt => ?_⟩⟩
    exact q _ _ (s2.trans (same_upd nt)) (Dp.ints (SqT.of upd_same))
theorem pcs_len {ws : List Int} {f : Int → Int} {gs : List (Int × List Int)} (gr : Grp f ws gs) : (pcs gs).length ≤ ws.length := by
  unfold pcs
  rw [List.length_mergeSort, List.length_map]
  exact gr.len
end
end TL
namespace TL
open PySem PySem.Spec PyProof.Rows L2
section
variable {P : Program} {w : World} {K : PySem.W.Frag} {mg : Str → Option Value} {base : Heap}
/-! ### the program: numbers, settings -/
def spIsNumber : Sp := fun vs H Q _ => ∃ i : Int, vs = [.int i] ∧ Q (.bl true) H
theorem ok_IsNumber {f : Addr} {fd : FuncData} {k : Nat} (F : Fun K "is_number" "is_number" sIsNumber f fd) (m_isinstance : mg "isinstance" = none) (m_int : mg "int" = none) (m_bool : mg "bool" = none) :
    FnOk P w K mg base CX0 (k + 1) f fd ["value"] spIsNumber := by
  refine F.ok scIsNumber (fun vs H Q E h => ?_) (fun cdv A outer s H vs Q E hr h => ?_)
  · obtain ⟨i, rfl, _⟩ := h
    rfl
  · obtain ⟨i, rfl, q⟩ := h
    refine ⟨_, (pss_one (ps_ret (pe_and (pe_callB (isiK K) (by rfl) m_isinstance (by decide +kernel) (pa_cons (pv 0) (pa_cons (pe_bltn (v := .ty "int") (by rfl) m_int (by decide +kernel) rfl) pa_nil))) (pe_one (pe_not (pe_callB (isiK K) (by rfl) m_isinstance (by decide +kernel) (pa_cons (pv 0) (pa_cons (pe_bltn (v := .ty "bool") (by rfl) m_bool (by decide +kernel) rfl) pa_nil)))))))), ?_⟩
    refine ⟨.int i, rfl, _, _, _, _, true, rfl, .ty "int", .base (.int i), kit_ty (by decide +kernel), true, rfl, iteT ?_⟩
    exact ⟨.int i, rfl, _, _, _, _, false, rfl, .ty "bool", .base (.int i), kit_ty (by decide +kernel), false, rfl, q⟩
/-! ### the program: slides -/
/-! ### a lamp is checked -/
def spCheckLamp (K : PySem.W.Frag) : Sp := fun vs H Q _ => ∃ (y : V) (S : List Int) (u : Int), vs = [y, .int u] ∧ Dp K H y (intsD S) ∧ u ∈ S ∧ Q .non H
theorem ok_CheckLamp {f : Addr} {fd : FuncData} (F : Fun K "check_lamp" "check_lamp" sCheckLamp f fd) (oIsNumber : Own P w K mg base "is_number" 1 ["value"] spIsNumber) :
    FnOk P w K mg base CX0 2 f fd ["setting", "value"] (spCheckLamp K) := by
  refine F.ok scCheckLamp (fun vs H Q E h => ?_) (fun cdv A outer s H vs Q E hr h => ?_)
  · obtain ⟨y, S, u, rfl, _⟩ := h
    rfl
  · obtain ⟨y, S, u, rfl, hy, hu, q⟩ := h
    obtain ⟨b, rfl, hb⟩ := Dp.intsI hy
    refine ⟨_, (pss_one (ps_if (PW.pt (pw_or (pt_not (pt_val (pe_own oIsNumber (hr.mono (by decide)) (by rfl) (pa_cons (pv 1) pa_nil)))) (pw_or1 (pt_cmpR (notInK K) (pv 1) (pv 0) (by rfl))))) (pss_one ps_never) pss_nil)), ?_⟩
    refine ⟨.int u, rfl, u, rfl, true, rfl, iteF ⟨.int u, rfl, .ref b, rfl, b, S.map V.int, rfl, .inr hb, rfl, flat_ints S, _, rfl, ?_⟩⟩
    show if (if true = true then !inV (V.int u) (S.map V.int) else _) = true then _ else _
    rw [if_pos rfl, inV_ints, decide_eq_true hu]
    exact iteF q
def spSlideLamp (K : PySem.W.Frag) : Sp := fun vs H Q _ => ∃ (x y : V) (m : Nat) (es : List (Int × Int)) (S : List Int) (u v : Int), vs = [x, y, .int u, .int v] ∧ m ≤ 12 ∧ IsFor m es ∧ Dp K H x (forD m es) ∧ Dp K H y (intsD S) ∧
  IsSet m es S ∧ u ∈ S ∧ v ∈ nearL m es u ∧ oth m es S u v = [] ∧ ∀ (H' : Hp) (t : Addr), Same H H' → H' t = some (.tup ((after S u v).map V.int)) → Q (.ref t) H'
theorem ok_SlideLamp {f : Addr} {fd : FuncData} (F : Fun K "slide_lamp" "slide_lamp" sSlideLamp f fd) (m_tuple : mg "tuple" = none) (m_sorted : mg "sorted" = none)
    (oIsNumber : Own P w K mg base "is_number" 1 ["value"] spIsNumber) (oCheckLamp : Own P w K mg base "check_lamp" 2 ["setting", "value"] (spCheckLamp K)) (oNeighboursOf : Own P w K mg base "neighbours_of" 1 ["forest", "vertex"] (spNeighboursOf K))
    (oBlockingLamps : Own P w K mg base "blocking_lamps" 2 ["forest", "setting", "u", "v"] (spBlockingLamps K)) :
    FnOk P w K mg base CX0 3 f fd ["forest", "setting", "u", "v"] (spSlideLamp K) := by
  refine F.ok scSlideLamp (fun vs H Q E h => ?_) (fun cdv A outer s H vs Q E hr h => ?_)
  · obtain ⟨x, y, m, es, S, u, v, rfl, _⟩ := h
    rfl
  · obtain ⟨x, y, m, es, S, u, v, rfl, hm, isf, hx, hy, iss, hu, hv, ho, q⟩ := h
    obtain ⟨b, rfl, hb⟩ := Dp.intsI hy
    have ls := iss.len
    refine ⟨_, (pss_cons (ps_expr (pe_own oCheckLamp (hr.mono (by decide)) (by rfl) (pa_cons (pv 1) (pa_cons (pv 2) pa_nil))))
    (pss_cons (ps_if (PW.pt (pw_or (pt_not (pt_val (pe_own oIsNumber (hr.mono (by decide)) (by rfl) (pa_cons (pv 3) pa_nil)))) (pw_or1 (pt_cmpR (notInK K) (pv 3) (pe_own oNeighboursOf (hr.mono (by decide)) (by rfl) (pa_cons (pv 0) (pa_cons (pv 2) pa_nil))) (by rfl))))) (pss_one ps_never) pss_nil)
    (pss_cons (ps_set (i := 4) scSlideLamp.nd rfl (.inl rfl) (pe_own oBlockingLamps (hr.mono (by decide)) (by rfl) (pa_cons (pv 0) (pa_cons (pv 1) (pa_cons (pv 2) (pa_cons (pv 3) pa_nil))))))
    (pss_cons (ps_if (truthK K (pv 4) (by intro _; rfl)) (pss_one ps_never) pss_nil)
    (pss_one (ps_ret (pe_callTy (tupleK K) (by rfl) m_tuple (by decide +kernel) (pa_cons (pe_callB (sortK K hr.units) (by rfl) m_sorted (by decide +kernel) (pa_cons (pe_lc (own := [("lamp", 5)]) (g := (gName 5)) (tt := tYes) rfl scSlideLamp.nd (piTK K (pv 1))
      (blkOk_by (own := [("lamp", 5)]) (N := nSlideLamp) (sc := (defScope sSlideLamp)) (by decide +kernel))
      (fun _ _ _ _ _ => (pg_name (i := 5) scSlideLamp.nd rfl (Or.inl rfl))) (fun _ _ _ _ _ => pts_nil)
      (fun _ _ _ _ _ => (pe_ifExp (pt_cmpR op_eq (pv 5) (pv 2) (nomark _)) (pv 3) (pv 5)))) pa_nil)) pa_nil)))))))), ?_⟩
    -- u
    refine ⟨.ref b, rfl, .int u, rfl, .ref b, S, u, rfl, hy, hu, ?_⟩
    -- v
    refine ⟨.int v, rfl, v, rfl, true, rfl, iteF ⟨.int v, rfl, x, rfl, .int u, rfl, x, m, es, u, rfl, hm, isf, hx, fun H1 n s1 dn => ?_⟩⟩
    obtain ⟨a, rfl, ha⟩ := Dp.intsI dn
    refine ⟨a, _, rfl, .inr ha, rfl, flat_ints _, _, rfl, ?_⟩
    show if (if true = true then !inV (V.int v) ((nearL m es u).map V.int) else _) = true then _ else _
    rw [if_pos rfl, inV_ints, decide_eq_true hv]
    refine iteF ?_
    -- blocking
    refine ⟨x, rfl, .ref b, rfl, .int u, rfl, .int v, rfl, x, _, m, es, S, u, v, rfl, hm, isf, Dp.same s1 hx, Dp.same s1 hy, fun H2 z s2 dz => ?_⟩
    rw [ho] at dz
    obtain ⟨c, rfl, hc⟩ := Dp.intsI dz
    refine ⟨.ref c, rfl, false, .inr (.inl ⟨_, hc, rfl⟩), iteF ?_⟩
    -- the setting
    have s12 := s1.trans s2
    refine ⟨.ref b, rfl, b, rfl, ⟨_, Same.tup s12 hb⟩, fun D nD => ?_⟩
    refine lc_tupI (K := K) (fun _ => true) (fun l => .int (if l = u then v else l)) nD (Same.tup s12 hb) (fun _ => rfl) (fun o _ H' R s3 hR => ?_) (fun o _ _ H' R s3 hR => ?_) (fun o => only_int _) (by omega) (fun H3 ys s3 eD dy => ?_)
    · exact hR H' (Same.refl _)
    · refine ⟨.int o, rfl, .int u, rfl, rfl, _, rfl, ?_⟩
      rw [dec_int]
      have h2 := hR H' (.int (if o = u then v else o)) (Same.refl _) (.int _)
      refine ite2 (fun h => ?_) (fun h => ?_)
      · rw [if_pos (of_decide_eq_true h)] at h2
        exact ⟨.int v, rfl, h2⟩
      · rw [if_neg fun z => h (decide_eq_true z)] at h2
        exact ⟨.int o, rfl, h2⟩
    have e1 : ys = (S.map fun l => if l = u then v else l).map V.int := DpAll.ints (by
      rw [List.map_map]
      have e : (S.filter fun _ => true) = S := List.filter_eq_self.mpr fun _ _ => rfl
      rw [e] at dy
      exact dy)
    subst e1
    refine sortInts (SqL.of eD) fun p np => ?_
    rw [after_eq iss.asc.nodup hu]
    have t1 := same_upd (o := .lst ((after S u v).map V.int)) np
    refine ⟨p, _, rfl, .inl ⟨SqL.of upd_same, fun t nt => ?_⟩⟩
    exact q _ _ (((s12.trans s3).trans t1).trans (same_upd nt)) upd_same
def spPossibleSlides (K : PySem.W.Frag) : Sp := fun vs H Q _ => ∃ (x y : V) (m : Nat) (es : List (Int × Int)) (S : List Int), vs = [x, y] ∧ m ≤ 12 ∧ IsFor m es ∧ Dp K H x (forD m es) ∧ Dp K H y (intsD S) ∧
  IsSet m es S ∧ ∀ (H' : Hp) (z : V), Same H H' → Dp K H' z (prsD (slidesP m es S)) → Q z H'
theorem ok_PossibleSlides {f : Addr} {fd : FuncData} (F : Fun K "possible_slides" "possible_slides" sPossibleSlides f fd) (m_tuple : mg "tuple" = none)
    (oNeighboursOf : Own P w K mg base "neighbours_of" 1 ["forest", "vertex"] (spNeighboursOf K))
    (oBlockingLamps : Own P w K mg base "blocking_lamps" 2 ["forest", "setting", "u", "v"] (spBlockingLamps K)) :
    FnOk P w K mg base CX0 3 f fd ["forest", "setting"] (spPossibleSlides K) := by
  refine F.ok scPossibleSlides (fun vs H Q E h => ?_) (fun cdv A outer s H vs Q E hr h => ?_)
  · obtain ⟨x, y, m, es, S, rfl, _⟩ := h
    rfl
  · obtain ⟨x, y, m, es, S, rfl, hm, isf, hx, hy, iss, q⟩ := h
    obtain ⟨b, rfl, hb⟩ := Dp.intsI hy
    have ls := iss.len
    refine ⟨_, (pss_cons (ps_setLc2 (i := 2) (own := [("u", 3), ("v", 4)]) (vs1 := [4]) (g := (gName 3)) (g1 := (gName 4)) (tt := tYes) (tt1 := tYes) (by rfl) scPossibleSlides.nd rfl rfl (sw_true rfl rfl rfl (by decide +kernel)) (piTK K (pv 1))
      (blkOk_by (own := [("u", 3), ("v", 4)]) (N := nPossibleSlides) (sc := (defScope sPossibleSlides)) (by decide +kernel)) (by decide)
      (fun _ _ _ _ _ => (pg_name (i := 3) scPossibleSlides.nd rfl (Or.inl rfl)))
      (fun _ _ _ _ _ => pts_nil)
      (fun _ _ _ _ _ => (piTK K (pe_own oNeighboursOf (hr.mono (by decide)) (by rfl) (pa_cons (pv 0) (pa_cons (pv 3) pa_nil)))))
      (fun _ _ _ _ _ => (pg_name (i := 4) scPossibleSlides.nd rfl (Or.inl rfl)))
      (fun _ _ _ _ _ => pts_nil)
      (fun _ _ _ _ _ => (pe_tup (pa_cons (pv 3) (pa_cons (pv 4) pa_nil)))))
    (pss_one (ps_ret (pe_callTy (tupleK K) (by rfl) m_tuple (by decide +kernel) (pa_cons (pe_lc (own := [("u", 3), ("v", 4)]) (g := (gTup K 2 (gCons (gName 3) (gCons (gName 4) gNil)))) rfl scPossibleSlides.nd (piLK K (pv 2))
      (blkOk_by (own := [("u", 3), ("v", 4)]) (N := nPossibleSlides) (sc := (defScope sPossibleSlides)) (by decide +kernel))
      (fun _ _ _ _ _ => (pgTK K (pgs_cons (pg_name (i := 3) scPossibleSlides.nd rfl (Or.inl rfl)) (pgs_cons (pg_name (i := 4) scPossibleSlides.nd rfl (Or.inl rfl)) pgs_nil)))) (fun _ _ _ _ _ => (pts_one (pt_not (truthK K (pe_own oBlockingLamps (hr.mono (by decide)) (by rfl) (pa_cons (pv 0) (pa_cons (pv 1) (pa_cons (pv 3) (pa_cons (pv 4) pa_nil))))) (by intro _; rfl)))))
      (fun _ _ _ _ _ => (pe_tup (pa_cons (pv 3) (pa_cons (pv 4) pa_nil))))) pa_nil))))), ?_⟩
    refine ⟨.ref b, rfl, b, rfl, ⟨_, hb⟩, fun D nD => ?_⟩
    refine lc2_tup (K := K) (S := S) (nearL m es) (fun u v => prD (u, v)) nD hb (fun _ => rfl) (fun _ _ => rfl) (fun u _ H' R s1 hR => ?_) (fun u _ v _ H' R s1 hR => ?_) (fun u v => only_pr _) (by omega) (fun u _ => by have := nearL_len m es u; omega) (fun H2 ys s2 eD dy => ?_)
    · refine ⟨x, rfl, .int u, rfl, x, m, es, u, rfl, hm, isf, Dp.same s1 hx, fun H2 n s2 dn => ?_⟩
      obtain ⟨a, rfl, ha⟩ := Dp.intsI dn
      exact ⟨a, rfl, ⟨_, ha⟩, hR H2 a s2 ha⟩
    · refine ⟨.int u, rfl, .int v, rfl, by show 2 ≤ sizeLine; decide, fun t nt => hR _ _ (same_upd nt) (Dp.pr (SqT.of upd_same))⟩
    have e1 : (S.flatMap fun u => (nearL m es u).map fun v => prD (u, v)) = (stepsL m es S).map prD := by
      unfold stepsL
      rw [List.map_flatMap]
      congr 1
      funext u
      rw [List.map_map]
      rfl
    rw [e1] at dy
    have sl := steps_len m es S
    have sl2 : S.length * m ≤ 12 * 12 := Nat.mul_le_mul (by omega) hm
    refine ⟨.ref D, rfl, D, rfl, ⟨_, SqL.of eD⟩, fun C nC => ?_⟩
    refine lc_listP (K := K) (fun p => decide (oth m es S p.1 p.2 = [])) prD nC (SqL.of eD) dy (fun _ _ => rfl) (fun o _ H' R s3 hR => ?_) (fun o _ _ H' R s3 hR => ?_) only_pr (by omega) (fun H3 zs s3 eC dz => ?_)
    · have s23 := s2.trans s3
      refine ⟨x, rfl, .ref b, rfl, .int o.1, rfl, .int o.2, rfl, x, _, m, es, S, o.1, o.2, rfl, hm, isf, Dp.same s23 hx, Dp.same s23 hy, fun H4 z s4 dz => ?_⟩
      obtain ⟨c, rfl, hc⟩ := Dp.intsI dz
      refine ⟨_, .inr (.inl ⟨_, hc, rfl⟩), ?_⟩
      have h2 := hR H4 s4
      cases e : oth m es S o.1 o.2 with
      | nil =>
        rw [decide_eq_true e] at h2
        exact h2
      | cons z r =>
        rw [decide_eq_false (by rw [e]; exact fun z => nomatch z)] at h2
        exact h2
    · refine ⟨.int o.1, rfl, .int o.2, rfl, by show 2 ≤ sizeLine; decide, fun t nt => hR _ _ (same_upd nt) (Dp.pr (SqT.of upd_same))⟩
    refine ⟨C, zs, rfl, .inl ⟨SqL.of eC, fun t nt => ?_⟩⟩
    have st := same_upd (o := .tup zs) nt
    exact q _ _ ((s2.trans s3).trans st) (.tup (SqT.of upd_same) (DpAll.same st dz))
/-! ### rows of ints -/
theorem lay_intsD (ns : List Int) : (intsD ns).canLay0 = true := by
  simp only [intsD, PyData.canLay0, lay_ints]
theorem shaped_intT (ns : List Int) : SeqAt.shaped (intsD ns) = true := by
  unfold SeqAt.shaped
  simp only [intsD, PyData.canLay0, PyData.depth, lay_ints, dep_ints]
  decide
theorem eqv_ints : ∀ a b : List Int, PyData.eqvAll (a.map .int) (b.map .int) = decide (a = b)
  | [], [] => by simp [PyData.eqvAll]
  | [], b :: bs => by simp [PyData.eqvAll]
  | a :: as, [] => by simp [PyData.eqvAll]
  | a :: as, b :: bs => by
    have ih := eqv_ints as bs
    rw [List.map_cons, List.map_cons]
    simp only [PyData.eqvAll, PyData.eqv, ih]
    by_cases h1 : a = b
    · by_cases h2 : as = bs
      · subst h1 h2; simp
      · simp [h1, h2]
    · simp [h1]
theorem lay_rowsS : ∀ L : List (List Int), PyData.canLayAll0 (L.map intsD) = true
  | [] => by simp [PyData.canLayAll0]
  | r :: L => by
    have ih := lay_rowsS L
    rw [List.map_cons]
    simp only [PyData.canLayAll0, lay_intsD, ih, Bool.and_self]
theorem dep_rows : ∀ L : List (List Int), PyData.depthAll (L.map intsD) ≤ 3
  | [] => by simp [PyData.depthAll]
  | r :: L => by
    have ih := dep_rows L
    rw [List.map_cons]
    simp only [PyData.depthAll, intsD, PyData.depth, dep_ints]
    omega
theorem shaped_rows (L : List (List Int)) : SeqAt.shaped (.list (L.map intsD)) = true := by
  have h := dep_rows L
  unfold SeqAt.shaped
  simp only [PyData.canLay0, PyData.depth, lay_rowsS]
  simp
  omega
theorem only_rows : ∀ L : List (List Int), onlyAll (L.map intsD) = true
  | [] => rfl
  | r :: L => by
    rw [List.map_cons]
    unfold onlyAll
    rw [only_intsD, only_rows L]
    rfl
theorem eqv_rows_nil (L : List (List Int)) : PyData.eqv (.list (L.map intsD)) (.list []) = decide (L = []) := by
  cases L with
  | nil => simp [PyData.eqv, PyData.eqvAll]
  | cons n r => simp [PyData.eqv, PyData.eqvAll]
theorem any_rows (L : List (List Int)) (a : List Int) : (L.map intsD).any (fun z => PyData.eqv z (intsD a)) = decide (a ∈ L) := by
  rw [Bool.eq_iff_iff, List.any_map, List.any_eq_true, decide_eq_true_iff]
  constructor
  · rintro ⟨r, hr, e⟩
    have e : PyData.eqv (intsD r) (intsD a) = true := e
    simp only [intsD, PyData.eqv, eqv_ints, decide_eq_true_eq] at e
    exact e ▸ hr
  · intro h
    refine ⟨a, h, ?_⟩
    show PyData.eqv (intsD a) (intsD a) = true
    simp only [intsD, PyData.eqv, eqv_ints, decide_true]
theorem DpAll.snocI {H : Hp} {d : PyData} : ∀ {ds : List PyData} {vs : List V}, DpAll K H vs (ds ++ [d]) → ∃ us u, vs = us ++ [u] ∧ DpAll K H us ds ∧ Dp K H u d
  | [], _, .cons h .nil => ⟨[], _, rfl, .nil, h⟩
  | _ :: ds, _, .cons h a => by
    obtain ⟨us, u, rfl, h1, h2⟩ := DpAll.snocI a
    exact ⟨_ :: us, u, rfl, .cons h h1, h2⟩
/-! ### the search -/
structure Sr (m : Nat) (es : List (Int × Int)) (S : List Int) (L M : List (List Int)) (ok : List Int → Int → Int → Prop) : Prop where
  nd : L.Nodup
  has : S ∈ L
  rch : ∀ r ∈ L, Rch m es S r
  sub : ∀ r ∈ M, r ∈ L
  cl : ∀ r ∈ L, r ∉ M → ∀ u v, (u, v) ∈ slidesP m es r → ok r u v → after r u v ∈ L
  le : M.length ≤ L.length
theorem Sr.start (m : Nat) (es : List (Int × Int)) (S : List Int) (ok : List Int → Int → Int → Prop) : Sr m es S [S] [S] ok :=
  ⟨List.pairwise_singleton _ _, List.mem_singleton.mpr rfl, (fun r h => by rw [List.mem_singleton.mp h]; exact .refl), (fun _ h => h), (fun r h n => absurd h n), Nat.le_refl _⟩
theorem Sr.add {m : Nat} {es : List (Int × Int)} {S r : List Int} {L M : List (List Int)} {ok : List Int → Int → Int → Prop} (h : Sr m es S L M ok) (n : r ∉ L) (rr : Rch m es S r) : Sr m es S (L ++ [r]) (M ++ [r]) ok where
  nd := List.nodup_append.mpr ⟨h.nd, List.pairwise_singleton _ _, fun a ha b hb e => n (by rw [List.mem_singleton.mp hb] at e; exact e ▸ ha)⟩
  has := List.mem_append_left _ h.has
  rch := fun z hz => by
    rcases List.mem_append.mp hz with hz | hz
    · exact h.rch z hz
    · rw [List.mem_singleton.mp hz]; exact rr
  sub := fun z hz => by
    rcases List.mem_append.mp hz with hz | hz
    · exact List.mem_append_left _ (h.sub z hz)
    · exact List.mem_append_right _ hz
  cl := fun z hz nz u v p o => by
    rcases List.mem_append.mp hz with hz | hz
    · exact List.mem_append_left _ (h.cl z hz (fun w => nz (List.mem_append_left _ w)) u v p o)
    · exact absurd (List.mem_append_right _ hz) nz
  le := by
    rw [List.length_append, List.length_append]
    exact Nat.add_le_add_right h.le _
theorem Sr.more {m : Nat} {es : List (Int × Int)} {S : List Int} {L M : List (List Int)} {ok ok' : List Int → Int → Int → Prop} (h : Sr m es S L M ok) (n : ∀ z u v, (u, v) ∈ slidesP m es z → ok' z u v → ok z u v ∨ after z u v ∈ L) : Sr m es S L M ok' :=
  ⟨h.nd, h.has, h.rch, h.sub, (fun z hz nz u v p o => (n z u v p o).elim (h.cl z hz nz u v p) id), h.le⟩
theorem Sr.all {m : Nat} {es : List (Int × Int)} {S : List Int} {L : List (List Int)} (h : Sr m es S L [] (fun _ _ _ => True)) (r : List Int) : r ∈ L ↔ Rch m es S r := by
  refine ⟨h.rch r, fun k => ?_⟩
  induction k with
  | refl => exact h.has
  | step _ p ih => exact h.cl _ ih (fun z => nomatch z) _ _ p trivial
theorem Sr.few {m : Nat} {es : List (Int × Int)} {S : List Int} {L M : List (List Int)} {ok : List Int → Int → Int → Prop} (f : IsFor m es) (iss : IsSet m es S) (hm : m ≤ 8) (h : Sr m es S L M ok) : L.length ≤ 256 := by
  have h1 := sets_few h.nd fun r hr => ((h.rch r hr).both f iss).1
  have h2 : 2 ^ m ≤ 2 ^ 8 := Nat.pow_le_pow_right (by decide) hm
  have h3 : 2 ^ 8 = 256 := rfl
  omega
/-! ### settings as tracked tuples -/
theorem small5000 {n : Nat} (h : n ≤ 5000) : n < sizeLine := Nat.lt_of_le_of_lt h (by decide)
def TT (H H' : Hp) : Prop := ∀ b xs, H b = some (.tup xs) → H' b = some (.tup xs)
theorem Same.tt {H H' : Hp} (s : Same H H') : TT H H' := fun b xs e => s _ _ e
theorem TT.trans {H H' H'' : Hp} (a : TT H H') (b : TT H' H'') : TT H H'' := fun c xs e => b _ _ (a _ _ e)
theorem tt_lst {H : Hp} {a : Addr} {xs ys : List V} (h : H a = some (.lst xs)) : TT H (upd H a (.lst ys)) := fun b zs e => by
  rw [upd_ne fun z => by rw [z, h] at e; cases e]
  exact e
theorem tt_dT {H : Hp} {a : Addr} {xs ys : List (List Key × V)} (h : H a = some (.dT xs)) : TT H (upd H a (.dT ys)) := fun b zs e => by
  rw [upd_ne fun z => by rw [z, h] at e; cases e]
  exact e
theorem kt_dT {H : Hp} {a : Addr} {xs ys : List (List Key × V)} (h : H a = some (.dT xs)) : KT K H (upd H a (.dT ys)) := by
  intro b zs qh
  rcases qh with (qh | ⟨o, qh⟩) | qh
  · refine .inl (.inl ?_)
    rw [upd_ne fun y => by rw [y, h] at qh; cases qh]
    exact qh
  · refine .inl (.inr ⟨o, ?_⟩)
    rw [upd_ne fun y => by rw [y, h] at qh; cases qh]
    exact qh
  · exact .inr qh
inductive TrA (H : Hp) : List V → List (List Int) → Prop
  | nil : TrA H [] []
  | cons {b : Addr} {r : List Int} {ys : List V} {M : List (List Int)} : H b = some (.tup (r.map V.int)) → TrA H ys M → TrA H (.ref b :: ys) (r :: M)
theorem TrA.tt {H H' : Hp} (k : TT H H') : ∀ {ys : List V} {M : List (List Int)}, TrA H ys M → TrA H' ys M
  | _, _, .nil => .nil
  | _, _, .cons h t => .cons (k _ _ h) (t.tt k)
theorem TrA.snoc {H : Hp} {b : Addr} {r : List Int} (h : H b = some (.tup (r.map V.int))) : ∀ {ys : List V} {M : List (List Int)}, TrA H ys M → TrA H (ys ++ [.ref b]) (M ++ [r])
  | _, _, .nil => .cons h .nil
  | _, _, .cons g t => .cons g (t.snoc h)
theorem TrA.length {H : Hp} : ∀ {ys : List V} {M : List (List Int)}, TrA H ys M → ys.length = M.length
  | _, _, .nil => rfl
  | _, _, .cons _ t => congrArg (· + 1) t.length
theorem TrA.all {H : Hp} : ∀ {ys : List V} {M : List (List Int)}, TrA H ys M → DpAll K H ys (M.map intsD)
  | _, _, .nil => .nil
  | _, _, .cons h t => .cons (Dp.ints (SqT.of h)) t.all
theorem TrA.get {H : Hp} : ∀ {ys : List V} {M : List (List Int)} {i : Nat} {y : V}, TrA H ys M → ys[i]? = some y → ∃ b r, y = .ref b ∧ M[i]? = some r ∧ H b = some (.tup (r.map V.int))
  | _, _, 0, _, .cons h t, e => by
    rw [List.getElem?_cons_zero] at e
    cases e
    exact ⟨_, _, rfl, rfl, h⟩
  | _, _, i + 1, _, .cons h t, e => by
    rw [List.getElem?_cons_succ] at e
    obtain ⟨b, r, e1, e2, e3⟩ := t.get e
    exact ⟨b, r, e1, by rw [List.getElem?_cons_succ]; exact e2, e3⟩
  | _, _, _, _, .nil, e => by simp at e
theorem dgetT {H : Hp} {G b : Addr} {kvs : List (List Key × V)} {r : List Int} (eG : H G = some (.dT kvs)) (eb : H b = some (.tup (r.map V.int))) : DGet H G (.ref b) (valV kvs (kI r)) := DGet.t eG (by rw [kI_kV]; exact eb)
theorem dputT {H : Hp} {G b : Addr} {kvs : List (List Key × V)} {r : List Int} {v : V} (eG : H G = some (.dT kvs)) (eb : H b = some (.tup (r.map V.int))) (hl : kvs.length < sizeLine) : DPut H G (.ref b) v (upd H G (.dT (putK kvs (kI r) v))) := DPut.t eG (by rw [kI_kV]; exact eb) hl
theorem Sr.few12 {m : Nat} {es : List (Int × Int)} {S : List Int} {L M : List (List Int)} {ok : List Int → Int → Int → Prop} (f : IsFor m es) (iss : IsSet m es S) (hm : m ≤ 12) (h : Sr m es S L M ok) : L.length ≤ 4096 := by
  have h1 := sets_few h.nd fun r hr => ((h.rch r hr).both f iss).1
  have h2 : 2 ^ m ≤ 2 ^ 12 := Nat.pow_le_pow_right (by decide) hm
  have h3 : 2 ^ 12 = 4096 := rfl
  omega
end
end TL
namespace TL
open PySem PySem.Spec PyProof.Rows L2
section
variable {P : Program} {w : World} {K : PySem.W.Frag} {mg : Str → Option Value} {base : Heap}
theorem eqv_intsD (a b : List Int) : PyData.eqv (intsD a) (intsD b) = decide (a = b) := by
  simp only [intsD, PyData.eqv, eqv_ints]
theorem apt_of {m : Nat} {es : List (Int × Int)} (G : List Int) : Apt m es G ((rng m).filter (ap m es G)) := ⟨fun x => by
  rw [List.mem_filter, mem_rng, ap_iff]⟩
theorem cnt_iff {m : Nat} {es : List (Int × Int)} {G S T : List Int} {lb : Int → Int} {gs : List (Int × List Int)} (f : IsFor m es) (sS : IsSet m es S) (sT : IsSet m es T) (gS : IsGr m es S G) (gT : IsGr m es T G) (lab : Lab es ((rng m).filter (ap m es G)) lb) (gr : Grp lb ((rng m).filter (ap m es G)) gs) :
    cnt (pcs gs) S = cnt (pcs gs) T ↔ Rch m es S T := by
  constructor
  · intro h
    refine reach_groups (apt_of G) f sS sT gS gT lab gr fun g hg => ?_
    have := List.map_inj_left.mp h g.2 (pcs_mem.mpr (List.mem_map.mpr ⟨g, hg, rfl⟩))
    omega
  · intro h
    refine List.map_inj_left.mpr fun b hb => ?_
    obtain ⟨g, hg, rfl⟩ := List.mem_map.mp (pcs_mem.mp hb)
    have := h.groups (apt_of G) f sS gS lab gr g hg
    omega
/-! ### the program: normal lamps -/
def spTreeIn (K : PySem.W.Frag) : Sp := fun vs H Q _ => ∃ (x y : V) (m : Nat) (es : List (Int × Int)) (b : List Int), vs = [x, y] ∧ m ≤ 12 ∧ IsFor m es ∧ Dp K H x (forD m es) ∧ Dp K H y (intsD b) ∧ ∀ (H' : Hp) (z : V), Same H H' → Dp K H' z (forD m (inE es b)) → Q z H'
theorem ok_TreeIn {f : Addr} {fd : FuncData} {k : Nat} (F : Fun K "tree_in" "tree_in" sTreeIn f fd) (m_tuple : mg "tuple" = none) : FnOk P w K mg base CX0 (k + 1) f fd ["forest", "piece"] (spTreeIn K) := by
  refine F.ok scTreeIn (fun vs H Q E h => ?_) (fun cdv A outer s H vs Q E hr h => ?_)
  · obtain ⟨x, y, m, es, b, rfl, _⟩ := h
    rfl
  · obtain ⟨x, y, m, es, b, rfl, hm, isf, hx, hy, q⟩ := h
    obtain ⟨a, e, xs, rfl, ha, he, hA⟩ := Dp.forI hx
    obtain ⟨c, rfl, hc⟩ := Dp.intsI hy
    have ec := isf.count
    refine ⟨_, (pss_cons (ps_asg (pv 0) (pgTK K (pgs_cons (pg_name (i := 2) scTreeIn.nd rfl (Or.inl rfl)) (pgs_cons (pg_name (i := 3) scTreeIn.nd rfl (Or.inl rfl)) pgs_nil))))
    (pss_one (ps_ret (pe_tup (pa_cons (pv 2) (pa_cons (pe_callTy (tupleK K) (by rfl) m_tuple (by decide +kernel) (pa_cons (pe_lc (own := [("a", 4), ("b", 5)]) (g := (gTup K 2 (gCons (gName 4) (gCons (gName 5) gNil)))) rfl scTreeIn.nd (piTK K (pv 3))
      (blkOk_by (own := [("a", 4), ("b", 5)]) (N := nTreeIn) (sc := (defScope sTreeIn)) (by decide +kernel))
      (fun _ _ _ _ _ => (pgTK K (pgs_cons (pg_name (i := 4) scTreeIn.nd rfl (Or.inl rfl)) (pgs_cons (pg_name (i := 5) scTreeIn.nd rfl (Or.inl rfl)) pgs_nil)))) (fun _ _ _ _ _ => (pts_one (PW.pt (pw_and (pt_cmpR (inK K) (pv 4) (pv 1) (by rfl)) (pw_and1 (pt_cmpR (inK K) (pv 5) (pv 1) (by rfl)))))))
      (fun _ _ _ _ _ => (pe_tup (pa_cons (pv 4) (pa_cons (pv 5) pa_nil))))) pa_nil)) pa_nil)))))), ?_⟩
    refine ⟨.ref a, rfl, a, _, rfl, ha, rfl, _, _, rfl, _, _, rfl, rfl, ?_⟩
    refine ⟨.int (m : Int), rfl, .ref e, rfl, e, rfl, ⟨_, he⟩, fun D nD => ?_⟩
    refine lc_tupP (K := K) (fun p => decide (p.1 ∈ b) && decide (p.2 ∈ b)) prD nD he hA (fun _ _ => rfl) (fun o _ H' R s1 hR => ?_) (fun o _ _ H' R s1 hR => ⟨.int o.1, rfl, .int o.2, rfl, by show 2 ≤ sizeLine; decide, fun t nt => hR _ _ (same_upd nt) (Dp.pr (SqT.of upd_same))⟩) (fun o => only_pr _) (by omega) (fun H2 ys s2 eD dy => ?_)
    · have hR' := hR H' (Same.refl _)
      refine ⟨.int o.1, rfl, .ref c, rfl, c, b.map V.int, rfl, .inr (Same.tup s1 hc), rfl, flat_ints b, _, rfl, ?_⟩
      show if (if false = true then _ else inV (V.int o.1) (b.map V.int)) = true then _ else _
      rw [if_neg Bool.false_ne_true, inV_ints]
      refine ite2 (fun h => ?_) (fun h => ?_)
      · refine ⟨.int o.2, rfl, .ref c, rfl, c, b.map V.int, rfl, .inr (Same.tup s1 hc), rfl, flat_ints b, _, rfl, ?_⟩
        show R (if false = true then _ else inV (V.int o.2) (b.map V.int)) _
        rw [if_neg Bool.false_ne_true, inV_ints]
        rw [h, Bool.true_and] at hR'
        exact hR'
      · rw [Bool.not_eq_true] at h
        rw [h, Bool.false_and] at hR'
        exact hR'
    refine ⟨D, _, rfl, .inl ⟨SqL.of eD, fun t nt => ?_⟩⟩
    have st := same_upd (o := .tup ys) nt
    refine ⟨by show 2 ≤ sizeLine; decide, fun z nz => ?_⟩
    have sz := same_upd (o := .tup [.int (m : Int), .ref t]) nz
    exact q _ _ ((s2.trans st).trans sz) (.tup (SqT.of upd_same) (.cons (.int _) (.cons (Dp.same sz (.tup (SqT.of upd_same) (DpAll.same st dy))) .nil)))
def spWithout (K : PySem.W.Frag) : Sp := fun vs H Q _ => ∃ (x : V) (m : Nat) (es : List (Int × Int)) (v : Int), vs = [x, .int v] ∧ m ≤ 12 ∧ IsFor m es ∧ Dp K H x (forD m es) ∧ ∀ (H' : Hp) (z : V), Same H H' → Dp K H' z (forD m (cutE es v)) → Q z H'
theorem inV_pair (v a b : Int) : inV (V.int v) [V.int a, V.int b] = (decide (v = a) || decide (v = b)) := by
  have := inV_ints v [a, b]
  rw [show [V.int a, V.int b] = [a, b].map V.int from rfl, this]
  rw [Bool.eq_iff_iff]
  simp
theorem ok_Without {f : Addr} {fd : FuncData} {k : Nat} (F : Fun K "without" "without" sWithout f fd) (m_tuple : mg "tuple" = none) : FnOk P w K mg base CX0 (k + 1) f fd ["tree", "vertex"] (spWithout K) := by
  refine F.ok scWithout (fun vs H Q E h => ?_) (fun cdv A outer s H vs Q E hr h => ?_)
  · obtain ⟨x, m, es, v, rfl, _⟩ := h
    rfl
  · obtain ⟨x, m, es, v, rfl, hm, isf, hx, q⟩ := h
    obtain ⟨a, e, xs, rfl, ha, he, hA⟩ := Dp.forI hx
    have ec := isf.count
    refine ⟨_, (pss_cons (ps_asg (pv 0) (pgTK K (pgs_cons (pg_name (i := 2) scWithout.nd rfl (Or.inl rfl)) (pgs_cons (pg_name (i := 3) scWithout.nd rfl (Or.inl rfl)) pgs_nil))))
    (pss_one (ps_ret (pe_tup (pa_cons (pv 2) (pa_cons (pe_callTy (tupleK K) (by rfl) m_tuple (by decide +kernel) (pa_cons (pe_lc (own := [("edge", 4)]) (g := (gName 4)) rfl scWithout.nd (piTK K (pv 3))
      (blkOk_by (own := [("edge", 4)]) (N := nWithout) (sc := (defScope sWithout)) (by decide +kernel))
      (fun _ _ _ _ _ => (pg_name (i := 4) scWithout.nd rfl (Or.inl rfl))) (fun _ _ _ _ _ => (pts_one (pt_cmpR (notInK K) (pv 1) (pv 4) (by rfl))))
      (fun _ _ _ _ _ => (pv 4))) pa_nil)) pa_nil)))))), ?_⟩
    refine ⟨.ref a, rfl, a, _, rfl, ha, rfl, _, _, rfl, _, _, rfl, rfl, ?_⟩
    refine ⟨.int (m : Int), rfl, .ref e, rfl, e, rfl, ⟨_, he⟩, fun D nD => ?_⟩
    refine lc_tupD (K := K) (bs := es) (e := prD) (fun p => !decide (p.1 = v) && !decide (p.2 = v)) prD nD he hA (fun _ => rfl) (fun y p _ dp H' R s1 hR => ?_) (fun y p _ _ dp H' R s1 hR => ⟨y, rfl, hR H' y (Same.refl _) (Dp.same s1 dp)⟩) (fun o => only_pr _) (by omega) (fun H2 ys s2 eD dy => ?_)
    · obtain ⟨c, rfl, hc⟩ := Dp.prI (Dp.same s1 dp)
      refine ⟨.int v, rfl, .ref c, rfl, c, _, rfl, .inr hc, rfl, rfl, _, rfl, ?_⟩
      show R (if true = true then !inV (V.int v) [V.int p.1, V.int p.2] else _) _
      rw [if_pos rfl, inV_pair]
      have e : (!(decide (v = p.1) || decide (v = p.2))) = (!decide (p.1 = v) && !decide (p.2 = v)) := by
        rw [Bool.not_or]
        congr 2
        · exact decide_eq_decide.mpr eq_comm
        · exact decide_eq_decide.mpr eq_comm
      rw [e]
      exact hR _ (Same.refl _)
    refine ⟨D, _, rfl, .inl ⟨SqL.of eD, fun t nt => ?_⟩⟩
    have st := same_upd (o := .tup ys) nt
    refine ⟨by show 2 ≤ sizeLine; decide, fun z nz => ?_⟩
    have sz := same_upd (o := .tup [.int (m : Int), .ref t]) nz
    exact q _ _ ((s2.trans st).trans sz) (.tup (SqT.of upd_same) (.cons (.int _) (.cons (Dp.same sz (.tup (SqT.of upd_same) (DpAll.same st dy))) .nil)))
def oV : Option Int → V
  | some v => .int v
  | none => .non
def spNextLeaf (K : PySem.W.Frag) : Sp := fun vs H Q _ => ∃ (x : V) (m : Nat) (es : List (Int × Int)), vs = [x] ∧ m ≤ 12 ∧ IsFor m es ∧ Dp K H x (forD m es) ∧ ∀ H' : Hp, Same H H' → Q (oV (nextL m es)) H'
theorem find_at {p : Int → Bool} {l : List Int} {i : Nat} {v : Int} (hi : l[i]? = some v) (before : ∀ u ∈ l.take i, p u = false) (hp : p v = true) : l.find? p = some v := by
  obtain ⟨h1, h2⟩ := List.getElem?_eq_some_iff.mp hi
  rw [← List.take_append_drop i l, List.find?_append, List.find?_eq_none.mpr (fun u hu => by rw [before u hu]; decide), Option.none_or, List.drop_eq_getElem_cons h1, List.find?_cons_of_pos (by rw [h2]; exact hp), h2]
theorem ok_NextLeaf {f : Addr} {fd : FuncData} (F : Fun K "next_leaf" "next_leaf" sNextLeaf f fd) (m_range : mg "range" = none) (m_len : mg "len" = none) (oNeighboursOf : Own P w K mg base "neighbours_of" 1 ["forest", "vertex"] (spNeighboursOf K)) :
    FnOk P w K mg base CX0 2 f fd ["tree"] (spNextLeaf K) := by
  refine F.ok scNextLeaf (fun vs H Q E h => ?_) (fun cdv A outer s H vs Q E hr h => ?_)
  · obtain ⟨x, m, es, rfl, _⟩ := h
    rfl
  · obtain ⟨x, m, es, rfl, hm, isf, hx, q⟩ := h
    obtain ⟨a, e, xs, rfl, ha, he, hA⟩ := Dp.forI hx
    refine ⟨_, (pss_cons (ps_asg (pv 0) (pgTK K (pgs_cons (pg_name (i := 1) scNextLeaf.nd rfl (Or.inl rfl)) (pgs_cons (pg_name (i := 2) scNextLeaf.nd rfl (Or.inl rfl)) pgs_nil))))
    (pss_cons (ps_set (i := 3) scNextLeaf.nd rfl (.inr rfl) (pe_lc (own := [("vertex", 6)]) (g := (gName 6)) rfl scNextLeaf.nd (pi_range1 (by rfl) m_range (pa_cons (pv 1) pa_nil))
      (blkOk_by (own := [("vertex", 6)]) (N := nNextLeaf) (sc := (defScope sNextLeaf)) (by decide +kernel))
      (fun _ _ _ _ _ => (pg_name (i := 6) scNextLeaf.nd rfl (Or.inl rfl))) (fun _ _ _ _ _ => (pts_one (pt_cmpR op_eq (pe_callB (lenK K) (by rfl) m_len (by decide +kernel) (pa_cons (pe_own oNeighboursOf (hr.mono (by decide)) (by rfl) (pa_cons (pv 0) (pa_cons (pv 6) pa_nil))) pa_nil)) pe_int (nomark _))))
      (fun _ _ _ _ _ => (pv 6))))
    (pss_cons (ps_for PassesOwn.never rfl (piLK K (pv 3)) (pg_name (i := 4) scNextLeaf.nd rfl (Or.inl rfl))
    (pss_cons (ps_set (i := 5) scNextLeaf.nd rfl (.inl rfl) (pe_ix (ixTK K) (pe_own oNeighboursOf (hr.mono (by decide)) (by rfl) (pa_cons (pv 0) (pa_cons (pv 4) pa_nil))) pe_int (fun _ _ => rfl)))
    (pss_one (ps_if (pt_cmpR op_le (pe_callB (lenK K) (by rfl) m_len (by decide +kernel) (pa_cons (pe_lc (own := [("other", 7)]) (g := (gName 7)) rfl scNextLeaf.nd (piTK K (pe_own oNeighboursOf (hr.mono (by decide)) (by rfl) (pa_cons (pv 0) (pa_cons (pv 5) pa_nil))))
      (blkOk_by (own := [("other", 7)]) (N := nNextLeaf) (sc := (defScope sNextLeaf)) (by decide +kernel))
      (fun _ _ _ _ _ => (pg_name (i := 7) scNextLeaf.nd rfl (Or.inl rfl))) (fun _ _ _ _ _ => (pts_one (pt_cmpR (notInK K) (pv 7) (pv 3) (by rfl))))
      (fun _ _ _ _ _ => (pv 7))) pa_nil)) pe_int (nomark _)) (pss_one (ps_ret (pv 4))) pss_nil))))
    (pss_one (ps_ret pe_non))))), ?_⟩
    refine ⟨.ref a, rfl, a, _, rfl, ha, rfl, _, _, rfl, _, _, rfl, rfl, ?_⟩
    refine ⟨.int (m : Int), rfl, (m : Int), rfl, by omega, by omega, fun D nD => ?_⟩
    rw [Int.toNat_natCast]
    refine lc_rng (K := K) (fun v => decide ((nearL m es v).length = 1)) .int nD (fun _ => rfl) (fun o _ H' R s1 hR => ?_) (fun o _ _ H' R s1 hR => ⟨.int o, rfl, hR H' _ (Same.refl _) (.int o)⟩) only_int (by omega) (fun H1 ys s1 eD dy => ?_)
    · refine ⟨.ref a, rfl, .int o, rfl, .ref a, m, es, o, rfl, hm, isf, Dp.same s1 hx, fun H2 y s2 dy => ?_⟩
      obtain ⟨b, rfl, hb⟩ := Dp.intsI dy
      refine ⟨b, _, rfl, .inr hb, rfl, _, rfl, ?_⟩
      rw [decInt, List.length_map]
      have e : decide (((nearL m es o).length : Int) = 1) = decide ((nearL m es o).length = 1) := decide_eq_decide.mpr (by omega)
      rw [e]
      exact hR _ s2
    rw [lst_ints dy] at eD
    have eD : H1 D = some (.lst ((leafs m es).map V.int)) := eD
    have ll : (leafs m es).length ≤ m := by
      have := List.length_filter_le (fun v => decide ((nearL m es v).length = 1)) (rng m)
      rw [rng_length] at this
      exact this
    refine ⟨.ref D, rfl, D, rfl, ⟨_, SqL.of eD⟩, for_list (K := K) (a := D) (xs := (leafs m es).map V.int) (fun i σ H' => ∃ (y4 y5 : Option V), σ = [some (.ref a), some (.int (m : Int)), some (.ref e), some (.ref D), y4, y5, none, none] ∧ Same H1 H' ∧ ∀ u ∈ (leafs m es).take i, goodLeaf m es u = false) ?_ ?_ ?_ ?_⟩
    · exact ⟨_, _, rfl, Same.refl _, fun u hu => by rw [List.take_zero] at hu; cases hu⟩
    · rintro i σ H' _ ⟨y4, y5, rfl, s2, _⟩
      exact SqL.of (s2 _ _ eD)
    · rintro i z σ H2 hz ⟨y4, y5, rfl, s2, bad⟩
      rw [List.getElem?_map] at hz
      obtain ⟨v, hv, rfl⟩ := Option.map_eq_some_iff.mp hz
      have mv := List.mem_of_getElem? hv
      have e1 := one_of (mem_leafs.mp mv).2
      have s12 := s1.trans s2
      refine ⟨.ref a, rfl, .int v, rfl, .ref a, m, es, v, rfl, hm, isf, Dp.same s12 hx, fun H3 y s3 dy => ?_⟩
      obtain ⟨b, rfl, hb⟩ := Dp.intsI dy
      rw [e1] at hb
      refine ⟨b, _, 0, .int (hdI (nearL m es v)), rfl, rfl, hb, atI_nat (j := 0) rfl, ?_⟩
      have s13 := s12.trans s3
      generalize hu : hdI (nearL m es v) = u
      refine ⟨.ref a, rfl, .int u, rfl, .ref a, m, es, u, rfl, hm, isf, Dp.same s13 hx, fun H4 y s4 dy => ?_⟩
      obtain ⟨b2, rfl, hb2⟩ := Dp.intsI dy
      have nl : (nearL m es u).length ≤ (rng m).length := List.length_filter_le _ _
      rw [rng_length] at nl
      refine ⟨b2, rfl, ⟨_, hb2⟩, fun C nC => ?_⟩
      refine lc_tupI (K := K) (fun o => !decide (o ∈ leafs m es)) .int nC hb2 (fun _ => rfl) (fun o _ H' R s5 hR => ?_) (fun o _ _ H' R s5 hR => ⟨.int o, rfl, hR H' _ (Same.refl _) (.int o)⟩) only_int (by omega) (fun H5 ys s5 eC dC => ?_)
      · refine ⟨.int o, rfl, .ref D, rfl, D, _, rfl, .inl (SqL.of (((s2.trans s3).trans s4).trans s5 _ _ eD)), rfl, flat_ints _, _, rfl, ?_⟩
        show R (if true = true then !inV (V.int o) ((leafs m es).map V.int) else _) _
        rw [if_pos rfl, inV_ints]
        exact hR _ (Same.refl _)
      rw [lst_ints dC] at eC
      refine ⟨C, _, rfl, .inl (SqL.of eC), _, _, rfl, rfl, _, rfl, ?_⟩
      rw [List.length_map]
      have eg : decide ((((nearL m es u).filter fun o => !decide (o ∈ leafs m es)).length : Int) ≤ 1) = goodLeaf m es v := by
        unfold goodLeaf
        rw [hu]
        exact decide_eq_decide.mpr (by omega)
      rw [eg]
      have s25 := ((s2.trans s3).trans s4).trans s5
      cases hg : goodLeaf m es v with
      | true =>
        refine iteT ⟨.int v, rfl, ?_⟩
        have := q _ (s1.trans s25)
        unfold nextL at this
        rw [find_at hv bad hg] at this
        exact this
      | false =>
        refine iteF ⟨_, _, rfl, s25, fun w hw => ?_⟩
        rw [List.take_add_one, hv] at hw
        rcases List.mem_append.mp hw with h | h
        · exact bad w h
        · rw [List.mem_singleton.mp h]
          exact hg
    · rintro σ H2 ⟨y4, y5, rfl, s2, bad⟩
      rw [List.length_map, List.take_length] at bad
      have := q _ (s1.trans s2)
      unfold nextL at this
      rw [List.find?_eq_none.mpr fun u hu => by rw [bad u hu]; decide] at this
      exact this
def stepD (m : Nat) (p : List (Int × Int) × Int) : PyData := .tuple [forD m p.1, .int p.2]
theorem only_step (m : Nat) (p : List (Int × Int) × Int) : only (stepD m p) = true := by
  unfold stepD
  simp [only, onlyAll, only_forD]
def spNormalSteps (K : PySem.W.Frag) : Sp := fun vs H Q _ => ∃ (x y : V) (m k : Nat) (es : List (Int × Int)) (b : List Int), vs = [x, y, .int (k : Int)] ∧ m ≤ 12 ∧ k ≤ 12 ∧ IsFor m es ∧ Dp K H x (forD m es) ∧ Dp K H y (intsD b) ∧ (normS m (inE es b) k).length = k ∧
  ∀ (H' : Hp) (D : Addr) (xs : List V), Same H H' → H D = none → H' D = some (.lst xs) → DpAll K H' xs ((normS m (inE es b) k).map (stepD m)) → Q (.ref D) H'
theorem normS_for {m : Nat} : ∀ {k : Nat} {es : List (Int × Int)}, IsFor m es → ∀ p ∈ normS m es k, IsFor m p.1
  | 0, _, _, p, h => nomatch h
  | k + 1, es, f, p, h => by
    have e : normS m es (k + 1) = match nextL m es with | some v => (es, v) :: normS m (cutE es (hdI (nearL m es v))) k | none => [] := rfl
    rw [e] at h
    cases hn : nextL m es with
    | none => rw [hn] at h; cases h
    | some v =>
      rw [hn] at h
      rcases List.mem_cons.mp h with rfl | h
      · exact f
      · exact normS_for (f.part _) p h
theorem ok_NormalSteps {f : Addr} {fd : FuncData} (F : Fun K "normal_steps" "normal_steps" sNormalSteps f fd) (m_len : mg "len" = none) (oTreeIn : Own P w K mg base "tree_in" 1 ["forest", "piece"] (spTreeIn K)) (oNextLeaf : Own P w K mg base "next_leaf" 2 ["tree"] (spNextLeaf K))
    (oWithout : Own P w K mg base "without" 1 ["tree", "vertex"] (spWithout K)) (oNeighboursOf : Own P w K mg base "neighbours_of" 1 ["forest", "vertex"] (spNeighboursOf K)) :
    FnOk P w K mg base CX0 3 f fd ["forest", "piece", "count"] (spNormalSteps K) := by
  refine F.ok scNormalSteps (fun vs H Q E h => ?_) (fun cdv A outer s H vs Q E hr h => ?_)
  · obtain ⟨x, y, m, k, es, b, rfl, _⟩ := h
    rfl
  · obtain ⟨x, y, m, k, es, b, rfl, hm, hk, isf, hx, hy, hlen, q⟩ := h
    refine ⟨_, (pss_cons (ps_set (i := 3) scNormalSteps.nd rfl (.inl rfl) (pe_own oTreeIn (hr.mono (by decide)) (by rfl) (pa_cons (pv 0) (pa_cons (pv 1) pa_nil))))
    (pss_cons (ps_set (i := 4) scNormalSteps.nd rfl (.inl rfl) (pe_lst pa_nil))
    (pss_cons (ps_while PassesOwn.never (pt_cmpR op_lt (pe_callB (lenK K) (by rfl) m_len (by decide +kernel) (pa_cons (pv 4) pa_nil)) (pv 2) (nomark _)) (pss_cons (ps_set (i := 5) scNormalSteps.nd rfl (.inl rfl) (pe_own oNextLeaf (hr.mono (by decide)) (by rfl) (pa_cons (pv 3) pa_nil)))
    (pss_cons (ps_expr (bmK K PySem.F.plainAttrs_list PySem.F.slot_list_append PySem.F.type_list_append mt_append (pv 4) (pa_cons (pe_tup (pa_cons (pv 3) (pa_cons (pv 5) pa_nil))) pa_nil)))
    (pss_one (ps_set (i := 3) scNormalSteps.nd rfl (.inl rfl) (pe_own oWithout (hr.mono (by decide)) (by rfl) (pa_cons (pv 3) (pa_cons (pe_ix (ixTK K) (pe_own oNeighboursOf (hr.mono (by decide)) (by rfl) (pa_cons (pv 3) (pa_cons (pv 5) pa_nil))) pe_int (fun _ _ => rfl)) pa_nil))))))))
    (pss_one (ps_ret (pv 4)))))), ?_⟩
    refine ⟨x, rfl, y, rfl, x, y, m, es, b, rfl, hm, isf, hx, hy, fun H1 z s1 dz => ?_⟩
    refine ⟨Nat.zero_le _, fun D nD => ?_⟩
    have sD := same_upd (o := .lst []) nD
    have eD := same_at (o := .lst []) nD
    have nHD : H D = none := s1.free nD
    refine while_ms (fun t σ H' => ∃ (i : Nat) (E : List (Int × Int)) (z : V) (y5 : Option V) (xs : List V) (dn : List (List (Int × Int) × Int)), σ = [some x, some y, some (.int (k : Int)), some z, some (.ref D), y5] ∧ Same H H' ∧ H' D = some (.lst xs) ∧ DpAll K H' xs (dn.map (stepD m)) ∧ dn.length = i ∧ i ≤ k ∧ Dp K H' z (forD m E) ∧ IsFor m E ∧ normS m (inE es b) k = dn ++ normS m E (k - i) ∧ t = k - i) _
      ⟨0, _, z, _, [], [], rfl, s1.trans sD, eD, .nil, rfl, Nat.zero_le _, Dp.same sD dz, isf.part _, rfl, rfl⟩ ?_ ?_
    · rintro t σ H2 ⟨i, E, z, y5, xs, dn, rfl, s2, eD2, dA, ln, ik, dz, isE, en, rfl⟩
      have xl := DpAll.length dA
      rw [List.length_map] at xl
      refine ⟨.ref D, rfl, D, xs, rfl, .inl (SqL.of eD2), .int (k : Int), rfl, _, _, rfl, rfl, _, rfl, ite2 (fun hlt => ?_) (fun hlt => ?_)⟩
      · have hlt : i < k := by have := of_decide_eq_true hlt; omega
        obtain ⟨j, hj⟩ : ∃ j, k - i = j + 1 := ⟨k - i - 1, by omega⟩
        have lE : (normS m E (k - i)).length = k - i := by
          have := congrArg List.length en
          rw [hlen, List.length_append, ln] at this
          omega
        rw [hj] at en lE
        have ee : normS m E (j + 1) = match nextL m E with | some v => (E, v) :: normS m (cutE E (hdI (nearL m E v))) j | none => [] := rfl
        cases hn : nextL m E with
        | none =>
          rw [ee, hn] at lE
          cases lE
        | some v =>
          rw [ee, hn] at en
          obtain ⟨u, e1, e2, _⟩ := nextL_some isE hn
          have en : normS m (inE es b) k = dn ++ (E, v) :: normS m (cutE E u) j := by rw [en, ← e2]
          refine ⟨z, rfl, z, m, E, rfl, hm, isE, dz, fun H3 s3 => ?_⟩
          rw [hn]
          have eD3 := s3 _ _ eD2
          refine ⟨.ref D, rfl, .inl ⟨rfl, _, SqL.of eD3⟩, z, rfl, .int v, rfl, by show 2 ≤ sizeLine; decide, fun p np => ?_⟩
          have sp := same_upd (o := .tup [z, V.int v]) np
          have ep := same_at (o := .tup [z, V.int v]) np
          have s23 := s3.trans sp
          have eD4 := s23 _ _ eD2
          have dz4 := Dp.same s23 dz
          have dA4 := DpAll.same s23 dA
          have s04 := s2.trans s23
          have dp : Dp K (upd H3 p (.tup [z, V.int v])) (.ref p) (stepD m (E, v)) := .tup (SqT.of ep) (.cons dz4 (.cons (.int v) .nil))
          generalize upd H3 p (.tup [z, V.int v]) = H4 at sp eD4 dz4 dA4 s04 dp ⊢
          have kt : KT K H4 (upd H4 D (.lst (xs ++ [V.ref p]))) := kt_lst eD4
          refine ⟨D, xs, .ref p, rfl, rfl, eD4, small1000 (by omega), ?_⟩
          have s05 : Same H (upd H4 D (.lst (xs ++ [V.ref p]))) := fun h o eh => by
            rw [upd_ne (ne_of_none eh nHD)]
            exact s04 _ _ eh
          have eD5 : upd H4 D (.lst (xs ++ [V.ref p])) D = some (.lst (xs ++ [V.ref p])) := upd_same
          have dz5 := Dp.kt kt dz4 (only_forD _ _)
          have dA5 : DpAll K (upd H4 D (.lst (xs ++ [V.ref p]))) (xs ++ [V.ref p]) ((dn ++ [(E, v)]).map (stepD m)) := by
            rw [List.map_append]
            exact DpAll.append (DpAll.kt kt dA4 (onlyAll_map (only_step m) _)) (.cons (Dp.kt kt dp (only_step m _)) .nil)
          generalize upd H4 D (.lst (xs ++ [V.ref p])) = H5 at s05 eD5 dz5 dA5 ⊢
          refine ⟨z, rfl, z, rfl, .int v, rfl, z, m, E, v, rfl, hm, isE, dz5, fun H6 y s6 dy => ?_⟩
          obtain ⟨c, rfl, hc⟩ := Dp.intsI dy
          rw [e1] at hc
          refine ⟨c, _, 0, .int u, rfl, rfl, hc, atI_nat (j := 0) rfl, z, m, E, u, rfl, hm, isE, Dp.same s6 dz5, fun H7 z7 s7 dz7 => ?_⟩
          have s57 := s6.trans s7
          refine ⟨k - (i + 1), by omega, i + 1, cutE E u, z7, _, _, dn ++ [(E, v)], rfl, s05.trans s57, s57 _ _ eD5, DpAll.same s57 dA5, by rw [List.length_append, ln]; rfl, by omega, dz7, isE.part _, ?_, rfl⟩
          rw [en, List.append_assoc]
          have : k - (i + 1) = j := by omega
          rw [this]
          rfl
      · have hlt : ¬ i < k := fun z => hlt (decide_eq_true (by omega))
        have e0 : k - i = 0 := by omega
        rw [e0] at en
        have en : normS m (inE es b) k = dn := by rw [en]; exact List.append_nil _
        rw [← en] at dA
        exact ⟨.ref D, rfl, q _ D xs s2 nHD eD2 dA⟩
    · rintro σ H' Q1 Q2 hQ ⟨v, e, p, xs, h1, h2, v2, e2, a, b, h3, h4, k, hk, h⟩
      exact ⟨v, e, p, xs, h1, h2, v2, e2, a, b, h3, h4, k, hk, hQ _ _ h⟩
end
end TL
namespace TL
open PySem PySem.Spec PyProof.Rows L2
section
variable {P : Program} {w : World} {K : PySem.W.Frag} {mg : Str → Option Value} {base : Heap}
/-- the normal setting -/
def IsNrm (m : Nat) (es : List (Int × Int)) (S T : List Int) : Prop := ∃ (G : List Int) (lb : Int → Int) (gs : List (Int × List Int)), IsGr m es S G ∧ Lab es ((rng m).filter (ap m es G)) lb ∧ Grp lb ((rng m).filter (ap m es G)) gs ∧ T = srtI (G ++ gs.flatMap fun g => normOf m es S g.2)
theorem flat_map (gs : List (Int × List Int)) (h : List Int → List Int) : (gs.flatMap fun g => h g.2) = (gs.map (·.2)).flatMap h := by
  rw [List.flatMap_map]
theorem flat_congr {α : Type} {h k : α → List Int} : ∀ {l : List α}, (∀ a ∈ l, h a = k a) → l.flatMap h = l.flatMap k
  | [], _ => rfl
  | a :: l, e => by
    rw [List.flatMap_cons, List.flatMap_cons, e a List.mem_cons_self, flat_congr fun b hb => e b (List.mem_cons_of_mem _ hb)]
theorem IsNrm.rch {m : Nat} {es : List (Int × Int)} {S T : List Int} (f : IsFor m es) (sS : IsSet m es S) (h : IsNrm m es S T) : Rch m es S T := by
  obtain ⟨G, lb, gs, gS, lab, gr, rfl⟩ := h
  exact norm_set (apt_of G) f sS gS lab gr
theorem IsNrm.same {m : Nat} {es : List (Int × Int)} {S S' T T' : List Int} (f : IsFor m es) (sS : IsSet m es S) (r : Rch m es S S') (h : IsNrm m es S T) (h' : IsNrm m es S' T') : T = T' := by
  obtain ⟨G, lb, gs, gS, lab, gr, rfl⟩ := h
  obtain ⟨G', lb', gs', gS', lab', gr', rfl⟩ := h'
  have e := (r.gr f sS gS).uniq gS'
  subst e
  have asc : Asc ((rng m).filter (ap m es G)) := (rng_asc m).filter _
  obtain ⟨n1, m1⟩ := grp_rows lab gr asc
  obtain ⟨n2, m2⟩ := grp_rows lab' gr' asc
  have pm : (gs.map (·.2)).Perm (gs'.map (·.2)) := (List.perm_ext_iff_of_nodup n1 n2).mpr fun r => (m1 r).trans (m2 r).symm
  refine srtI_congr (List.Perm.append_left G ?_)
  rw [flat_map gs (normOf m es S), flat_map gs' (normOf m es S')]
  refine (pm.flatMap_right _).trans ?_
  have e : (gs'.map (·.2)).flatMap (normOf m es S) = (gs'.map (·.2)).flatMap (normOf m es S') := by
    rw [← flat_map, ← flat_map]
    refine flat_congr fun g hg => ?_
    have := r.groups (apt_of G) f sS gS lab' gr' g hg
    unfold normOf cntS
    rw [this]
  rw [e]
end
end TL
namespace TL
open PySem PySem.Spec PyProof.Rows L2
section
variable {P : Program} {w : World} {K : PySem.W.Frag} {mg : Str → Option Value} {base : Heap}
theorem step_one {m : Nat} {H : Hp} {x : V} {p : List (Int × Int) × Int} (h : Dp K H x (stepD m p)) : ∃ t z, x = .ref t ∧ SqT K H t [z, .int p.2] := by
  unfold stepD at h
  obtain ⟨t, vs, rfl, ht, hv⟩ := Dp.tupI h
  cases hv with
  | cons hz hv =>
    cases hv with
    | cons hw hv =>
      cases hv
      have ew := Dp.intI hw
      subst ew
      exact ⟨t, _, rfl, ht⟩
theorem steps_split {m : Nat} {H : Hp} {ps : List (List (Int × Int) × Int)} : ∀ {xs : List V}, DpAll K H xs (ps.map (stepD m)) → ∃ bs : List (V × Int), bs.map (·.2) = ps.map (·.2) ∧ bs.length = xs.length ∧ ∀ (k : Nat) (x : V) (b : V × Int), xs[k]? = some x → bs[k]? = some b → ∃ t, x = .ref t ∧ SqT K H t [b.1, .int b.2] := by
  generalize hs : stepD m = sd
  induction ps with
  | nil =>
    intro xs h
    cases h
    exact ⟨[], rfl, rfl, fun k x b h => by simp at h⟩
  | cons p ps ih =>
    intro xs h
    rw [List.map_cons] at h
    cases h with
    | cons h a =>
      obtain ⟨bs, e1, e2, e3⟩ := ih a
      subst hs
      obtain ⟨t, z, rfl, ht⟩ := step_one h
      refine ⟨(z, p.2) :: bs, by rw [List.map_cons, List.map_cons, e1], by rw [List.length_cons, List.length_cons, e2], fun k x b hx hb => ?_⟩
      cases k with
      | zero =>
        rw [List.getElem?_cons_zero] at hx hb
        cases hx
        cases hb
        exact ⟨t, rfl, ht⟩
      | succ k =>
        rw [List.getElem?_cons_succ] at hx hb
        exact e3 k x b hx hb
section
variable {tt : L2.TT} {te : TE} {vs : List Nat} {σ : L2.St} {H1 : Hp} {D : Addr} {Qd : Hp → Prop}
theorem lc_listS {a : Addr} {xs : List V} {bs : List (V × Int)} {i j : Nat} (d : V × Int → PyData) (nD : H1 D = none) (hS : SqL K H1 a xs) (bl : bs.length = xs.length) (hA : ∀ (k : Nat) (x : V) (b : V × Int), xs[k]? = some x → bs[k]? = some b → ∃ t, x = .ref t ∧ SqT K H1 t [b.1, .int b.2])
    (hw : ∀ v u, wipe (((wipe σ vs).set i (some v)).set j (some u)) vs = wipe σ vs)
    (ht : ∀ o ∈ bs, ∀ H' (Q : Bool → Hp → Prop), Same H1 H' → (∀ H2, Same H' H2 → Q true H2) → tt (((wipe σ vs).set i (some o.1)).set j (some (.int o.2))) H' Q)
    (he : ∀ o ∈ bs, ∀ H' (Q : VK), Same H1 H' → (∀ H2 y, Same H' H2 → Dp K H2 y (d o) → Q y H2) → te (((wipe σ vs).set i (some o.1)).set j (some (.int o.2))) H' Q)
    (ho : ∀ o, only (d o) = true) (hl : bs.length ≤ 1000)
    (hd : ∀ H' ys, Same H1 H' → H' D = some (.lst ys) → DpAll K H' ys (bs.map d) → Qd H') :
    LcGoal (Itl K a) (gTup K 2 (gCons (gName i) (gCons (gName j) gNil))) tt te vs σ H1 D Qd := by
  refine lc_gen bs (fun o => ((wipe σ vs).set i (some o.1)).set j (some (.int o.2))) (fun _ => true) d nD (fun j H' hj s => ⟨_, _, s.seq hS, List.getElem?_eq_getElem (by omega)⟩)
    (fun H' s => ⟨_, s.seq hS, by omega⟩) (fun k b x H' H'' hb s y => ?_) (fun b => hw _ _) ht (fun o m _ => he o m) ho hl (fun H' ys s e dy => hd H' ys s e (by rw [filt_true] at dy; exact dy))
  obtain ⟨e, hy⟩ := y
  obtain ⟨t, rfl, hT⟩ := hA k x b (hy _ (s.seq hS)) hb
  exact ⟨e, fun Q q => ⟨t, _, rfl, Same.tup s hT, rfl, _, _, rfl, _, _, rfl, rfl, q⟩⟩
end
def spNormalSetting (K : PySem.W.Frag) : Sp := fun vs H Q _ => ∃ (x y : V) (m : Nat) (es : List (Int × Int)) (S : List Int), vs = [x, y] ∧ m ≤ 12 ∧ IsFor m es ∧ Dp K H x (forD m es) ∧ Dp K H y (intsD S) ∧ IsSet m es S ∧
  ∀ (H' : Hp) (t : Addr) (T : List Int), Same H H' → IsNrm m es S T → H' t = some (.tup (T.map V.int)) → Q (.ref t) H'
theorem ok_NormalSetting {f : Addr} {fd : FuncData} (F : Fun K "normal_setting" "normal_setting" sNormalSetting f fd) (m_len : mg "len" = none) (m_list : mg "list" = none) (m_tuple : mg "tuple" = none) (m_sorted : mg "sorted" = none) (oGreatestLock : Own P w K mg base "greatest_lock" 5 ["forest", "setting"] (spGreatestLock K))
    (oPiecesOf : Own P w K mg base "pieces_of" 3 ["forest", "lock"] (spPiecesOf K)) (oLampsIn : Own P w K mg base "lamps_in" 1 ["setting", "piece"] (spLampsIn K)) (oNormalSteps : Own P w K mg base "normal_steps" 3 ["forest", "piece", "count"] (spNormalSteps K)) :
    FnOk P w K mg base CX0 6 f fd ["forest", "setting"] (spNormalSetting K) := by
  refine F.ok scNormalSetting (fun vs H Q E h => ?_) (fun cdv A outer s H vs Q E hr h => ?_)
  · obtain ⟨x, y, m, es, S, rfl, _⟩ := h
    rfl
  · obtain ⟨x, y, m, es, S, rfl, hm, isf, hx, hy, sS, q⟩ := h
    have lS := sS.len
    refine ⟨_, (pss_cons (ps_set (i := 2) scNormalSetting.nd rfl (.inl rfl) (pe_own oGreatestLock (hr.mono (by decide)) (by rfl) (pa_cons (pv 0) (pa_cons (pv 1) pa_nil))))
    (pss_cons (ps_set (i := 3) scNormalSetting.nd rfl (.inl rfl) (pe_callTy (listK K) (by rfl) m_list (by decide +kernel) (pa_cons (pv 2) pa_nil)))
    (pss_cons (ps_for PassesOwn.never rfl (piTK K (pe_own oPiecesOf (hr.mono (by decide)) (by rfl) (pa_cons (pv 0) (pa_cons (pv 2) pa_nil)))) (pg_name (i := 4) scNormalSetting.nd rfl (Or.inl rfl))
    (pss_cons (ps_set (i := 5) scNormalSetting.nd rfl (.inl rfl) (pe_own oNormalSteps (hr.mono (by decide)) (by rfl) (pa_cons (pv 0) (pa_cons (pv 4) (pa_cons (pe_callB (lenK K) (by rfl) m_len (by decide +kernel) (pa_cons (pe_own oLampsIn (hr.mono (by decide)) (by rfl) (pa_cons (pv 1) (pa_cons (pv 4) pa_nil))) pa_nil)) pa_nil)))))
    (pss_one (ps_expr (bmK K PySem.F.plainAttrs_list PySem.F.slot_list_extend PySem.F.type_list_extend mt_extend (pv 3) (pa_cons (pe_lc (own := [("tree", 6), ("leaf", 7)]) (g := (gTup K 2 (gCons (gName 6) (gCons (gName 7) gNil)))) (tt := tYes) rfl scNormalSetting.nd (piLK K (pv 5))
      (blkOk_by (own := [("tree", 6), ("leaf", 7)]) (N := nNormalSetting) (sc := (defScope sNormalSetting)) (by decide +kernel))
      (fun _ _ _ _ _ => (pgTK K (pgs_cons (pg_name (i := 6) scNormalSetting.nd rfl (Or.inl rfl)) (pgs_cons (pg_name (i := 7) scNormalSetting.nd rfl (Or.inl rfl)) pgs_nil)))) (fun _ _ _ _ _ => pts_nil)
      (fun _ _ _ _ _ => (pv 7))) pa_nil))))))
    (pss_one (ps_ret (pe_callTy (tupleK K) (by rfl) m_tuple (by decide +kernel) (pa_cons (pe_callB (sortK K hr.units) (by rfl) m_sorted (by decide +kernel) (pa_cons (pv 3) pa_nil)) pa_nil))))))), ?_⟩
    refine ⟨x, rfl, y, rfl, x, y, m, es, S, rfl, hm, isf, hx, hy, sS.asc, by omega, fun H1 g G s1 gS dg => ?_⟩
    obtain ⟨ga, rfl, hga⟩ := Dp.intsI dg
    have lG := gS.len sS.asc
    refine ⟨.ref ga, rfl, ga, G.map V.int, rfl, .inr hga, fun D nD => ?_⟩
    have sD := same_upd (o := .lst (G.map V.int)) nD
    have eD := same_at (o := .lst (G.map V.int)) nD
    have s1D := s1.trans sD
    have nHD : H D = none := s1.free nD
    have dgD := Dp.same sD dg
    generalize upd H1 D (.lst (G.map V.int)) = H2 at sD eD s1D dgD ⊢
    refine ⟨x, rfl, .ref ga, rfl, x, .ref ga, m, es, G, rfl, hm, isf, Dp.same s1D hx, dgD, fun H3 r lb gs s3 lab gr dr => ?_⟩
    obtain ⟨a, xs, rfl, ha, hA⟩ := Dp.tupI dr
    have hA : DpAll K H3 xs ((pcs gs).map intsD) := hA
    have xl := DpAll.length hA
    rw [List.length_map] at xl
    have lp := pcs_len gr
    have lw := List.length_filter_le (ap m es G) (rng m)
    rw [rng_length] at lw
    have n3D : H D = none := nHD
    have eD3 := s3 _ _ eD
    have s13 := s1D.trans s3
    refine ⟨a, rfl, ⟨_, ha⟩, for_tup (K := K) (a := a) (xs := xs) (fun i σ H' => ∃ (y4 y5 : Option V), σ = [some x, some y, some (.ref ga), some (.ref D), y4, y5, none, none] ∧ Same H H' ∧ KT K H3 H' ∧ H' D = some (.lst ((G ++ ((pcs gs).take i).flatMap (normOf m es S)).map V.int)) ∧ (((pcs gs).take i).flatMap (normOf m es S)).length ≤ 12 * i) ?_ ?_ ?_ ?_⟩
    · exact ⟨_, _, rfl, s13, KT.refl, by rw [List.take_zero, List.flatMap_nil, List.append_nil]; exact eD3, by rw [List.take_zero, List.flatMap_nil]; exact Nat.le_refl _⟩
    · rintro i σ H' _ ⟨y4, y5, rfl, _, kt, _⟩
      exact kt _ _ ha
    · rintro i z σ H4 hz ⟨y4, y5, rfl, s4, kt4, eD4, len4⟩
      obtain ⟨w, hw, dz⟩ := DpAll.get hA hz
      rw [List.getElem?_map] at hw
      obtain ⟨b, hb, rfl⟩ := Option.map_eq_some_iff.mp hw
      have mb := List.mem_of_getElem? hb
      have ib : i < (pcs gs).length := (List.getElem?_eq_some_iff.mp hb).1
      obtain ⟨g, hg, rfl⟩ := List.mem_map.mp (pcs_mem.mp mb)
      have pc := pce_of (apt_of G) isf sS gS lab gr hg
      obtain ⟨nl, _⟩ := pc.norm isf
      have dz4 := Dp.kt kt4 dz (only_intsD _)
      have tk : (pcs gs).take (i + 1) = (pcs gs).take i ++ [g.2] := by rw [List.take_add_one, hb]; rfl
      have lc : cntS S g.2 ≤ S.length := List.length_filter_le _ _
      refine ⟨x, rfl, z, rfl, y, rfl, z, rfl, y, z, S, g.2, rfl, Dp.same s4 hy, dz4, by omega, fun H5 r5 s5 d5 => ?_⟩
      obtain ⟨r5a, rfl, h5a⟩ := Dp.intsI d5
      refine ⟨r5a, _, rfl, .inr h5a, ?_⟩
      have e5 : (((S.filter fun l => decide (l ∈ g.2)).map V.int).length : Int) = ((cntS S g.2 : Nat) : Int) := by rw [List.length_map]; rfl
      rw [e5]
      have s45 := s4.trans s5
      refine ⟨x, z, m, cntS S g.2, es, g.2, rfl, hm, by omega, isf, Dp.same s45 hx, Dp.same s5 dz4, nl, fun H6 C zs s6 nC eC dC => ?_⟩
      have s46 := s5.trans s6
      have zl := DpAll.length dC
      rw [List.length_map, nl] at zl
      refine ⟨.ref D, rfl, .inl ⟨rfl, _, SqL.of (s46 _ _ eD4)⟩, .ref C, rfl, C, rfl, ⟨_, SqL.of eC⟩, fun B nB => ?_⟩
      obtain ⟨bs, b1, b2, b3⟩ := steps_split dC
      refine lc_listS (K := K) (fun o => .int o.2) nB (SqL.of eC) b2 b3 (fun _ _ => rfl) (fun o _ H' R s7 hR => hR H' (Same.refl _)) (fun o _ H' R s7 hR => ⟨.int o.2, rfl, hR H' _ (Same.refl _) (.int _)⟩) (fun o => only_int _) (by omega) (fun H7 ys s7 eB dy => ?_)
      have ey : ys = (normOf m es S g.2).map V.int := by
        have h1 := DpAll.ints (ns := bs.map (·.2)) (by rw [List.map_map]; exact dy)
        rw [b1] at h1
        exact h1
      subst ey
      have s47 := s46.trans s7
      have eD7 := s47 _ _ eD4
      have ln : (normOf m es S g.2).length = cntS S g.2 := by
        unfold normOf normL
        rw [List.length_map]
        exact nl
      have kt7 : KT K H7 (upd H7 D (.lst ((G ++ ((pcs gs).take i).flatMap (normOf m es S)).map V.int ++ (normOf m es S g.2).map V.int))) := kt_lst eD7
      refine ⟨D, B, _, _, rfl, rfl, eD7, eB, Nat.le_of_lt (small1000 (by rw [List.length_map, List.length_map, List.length_append]; omega)), _, _, rfl, fun h o eh => ?_, (kt4.trans (Same.kt s47)).trans kt7, ?_, ?_⟩
      · rw [upd_ne (ne_of_none eh nHD)]
        exact s47 _ _ (s4 _ _ eh)
      · rw [upd_same, tk, List.flatMap_append, List.flatMap_singleton, ← List.append_assoc, List.map_append (l₁ := G ++ _)]
      · rw [tk, List.flatMap_append, List.flatMap_singleton, List.length_append, ln]
        omega
    · rintro σ H4 ⟨y4, y5, rfl, s4, kt4, eD4, len4⟩
      rw [xl, List.take_length] at eD4
      have pm : (pcs gs).Perm (gs.map (·.2)) := List.mergeSort_perm _ _
      refine ⟨.ref D, rfl, sortInts (SqL.of eD4) fun p np => ?_⟩
      have t1 := same_upd (o := .lst ((srtI (G ++ (pcs gs).flatMap (normOf m es S))).map V.int)) np
      refine ⟨p, _, rfl, .inl ⟨SqL.of upd_same, fun t nt => ?_⟩⟩
      refine q _ t _ ((s4.trans t1).trans (same_upd nt)) ⟨G, lb, gs, gS, lab, gr, srtI_congr (List.Perm.append_left G ?_)⟩ upd_same
      rw [flat_map gs (normOf m es S)]
      exact pm.flatMap_right _
end
end TL
namespace TL
open PySem PySem.Spec PyProof.Rows L2
section
variable {P : Program} {w : World} {K : PySem.W.Frag} {mg : Str → Option Value} {base : Heap}
/-! ### a dict of rows and numbers -/
def KN (kvs : List (List Key × V)) (P : List (List Int × Nat)) : Prop := kvs = P.map fun p => (kI p.1, V.int (p.2 : Int))
theorem KN.kd {kvs : List (List Key × V)} {P : List (List Int × Nat)} (h : KN kvs P) : KD kvs (P.map Prod.fst) := by
  rw [show kvs = _ from h]
  refine ⟨by rw [List.map_map, List.map_map]; rfl, fun kv hkv => ?_⟩
  obtain ⟨p, _, rfl⟩ := List.mem_map.mp hkv
  exact ⟨_, rfl⟩
theorem KN.val {kvs : List (List Key × V)} {P : List (List Int × Nat)} (h : KN kvs P) {r : List Int} (m : r ∈ P.map Prod.fst) : ∃ n, (r, n) ∈ P ∧ valV kvs (kI r) = some (.int (n : Int)) := by
  rw [show kvs = _ from h]
  clear h
  induction P with
  | nil => exact nomatch m
  | cons p P ih =>
    rw [List.map_cons]
    by_cases e : p.1 = r
    · subst e
      exact ⟨p.2, List.mem_cons_self, by rw [valV_pos rfl]⟩
    · have e' : ¬ kI p.1 = kI r := fun z => e (kI_inj z)
      rw [List.map_cons] at m
      obtain ⟨n, h1, h2⟩ := ih ((List.mem_cons.mp m).resolve_left fun z => e z.symm)
      exact ⟨n, List.mem_cons_of_mem _ h1, by rw [valV_neg e']; exact h2⟩
theorem KN.put {kvs : List (List Key × V)} {P : List (List Int × Nat)} (h : KN kvs P) {r : List Int} (n : r ∉ P.map Prod.fst) {i : Int} {k : Nat} (hi : i = (k : Int)) : KN (putK kvs (kI r) (.int i)) (P ++ [(r, k)]) := by
  have e : valV kvs (kI r) = none := by
    rcases h.kd.val r with ⟨m, _⟩ | ⟨_, e⟩
    · exact absurd m n
    · exact e
  rw [putK_new _ e, hi]
  unfold KN at h ⊢
  rw [List.map_append, ← h]
  rfl
theorem KN.one (r : List Int) : KN [(kI r, .int 0)] [(r, 0)] := rfl
/-! ### the program: distances, the class -/
def spDistancesFrom (K : PySem.W.Frag) : Sp := fun vs H Q _ => ∃ (x : V) (t : Addr) (m : Nat) (es : List (Int × Int)) (S : List Int), vs = [x, .ref t] ∧ m ≤ 12 ∧ IsFor m es ∧ Dp K H x (forD m es) ∧ H t = some (.tup (S.map V.int)) ∧ IsSet m es S ∧
  ∀ (H' : Hp) (G : Addr) (kvs : List (List Key × V)) (PP : List (List Int × Nat)), Same H H' → H' G = some (.dT kvs) → KN kvs PP → (PP.map Prod.fst).Nodup → (∀ r, r ∈ PP.map Prod.fst ↔ Rch m es S r) → (∀ p ∈ PP, Dst m es S p.2 p.1) → (PP.map Prod.fst).length ≤ 4096 → Q (.ref G) H'
theorem ok_DistancesFrom {f : Addr} {fd : FuncData} (F : Fun K "distances_from" "distances_from" sDistancesFrom f fd)
    (oPossibleSlides : Own P w K mg base "possible_slides" 3 ["forest", "setting"] (spPossibleSlides K)) (oSlideLamp : Own P w K mg base "slide_lamp" 3 ["forest", "setting", "u", "v"] (spSlideLamp K)) :
    FnOk P w K mg base CX0 4 f fd ["forest", "setting"] (spDistancesFrom K) := by
  refine F.ok scDistancesFrom (fun vs H Q E h => ?_) (fun cdv A outer s H vs Q E hr h => ?_)
  · obtain ⟨x, t, m, es, S, rfl, _⟩ := h
    rfl
  · obtain ⟨x, t, m, es, S, rfl, hm, isf, hx, ht, iss, q⟩ := h
    refine ⟨_, (pss_cons (ps_set (i := 2) scDistancesFrom.nd rfl (.inl rfl) (pe_disp1T (hu_of hr) (pv 1) pe_int))
    (pss_cons (ps_set (i := 3) scDistancesFrom.nd rfl (.inl rfl) (pe_lst (pa_cons (pv 1) pa_nil)))
    (pss_cons (ps_while PassesOwn.never (truthK K (pv 3) (by intro _; rfl)) (pss_cons (ps_set (i := 4) scDistancesFrom.nd rfl (.inl rfl) (bmK K PySem.F.plainAttrs_list PySem.F.slot_list_pop PySem.F.type_list_pop mt_popAt (pv 3) (pa_cons pe_int pa_nil)))
    (pss_one (ps_for PassesOwn.never rfl (piTK K (pe_own oPossibleSlides (hr.mono (by decide)) (by rfl) (pa_cons (pv 0) (pa_cons (pv 4) pa_nil)))) (pgTK K (pgs_cons (pg_name (i := 5) scDistancesFrom.nd rfl (Or.inl rfl)) (pgs_cons (pg_name (i := 6) scDistancesFrom.nd rfl (Or.inl rfl)) pgs_nil)))
    (pss_cons (ps_set (i := 7) scDistancesFrom.nd rfl (.inl rfl) (pe_own oSlideLamp (hr.mono (by decide)) (by rfl) (pa_cons (pv 0) (pa_cons (pv 4) (pa_cons (pv 5) (pa_cons (pv 6) pa_nil))))))
    (pss_one (ps_if (pt_cmp (pc_dnotin (hu_of hr) (pv 7) (pv 2))) (pss_cons (ps_dput (hu_of hr) (pv 2) (pv 7) (pe_op op_add (pe_dget (hu_of hr) (pv 2) (pv 4) (fun _ _ => rfl)) pe_int) rfl)
    (pss_one (ps_expr (bmK K PySem.F.plainAttrs_list PySem.F.slot_list_append PySem.F.type_list_append mt_append (pv 3) (pa_cons (pv 7) pa_nil))))) pss_nil)))))))
    (pss_one (ps_ret (pv 2)))))), ?_⟩
    refine fun G nG => ?_
    have ntG : t ≠ G := ne_of_none ht nG
    refine ⟨.ref t, rfl, t, kI S, .int 0, rfl, upd_same, ?_, ?_⟩
    · rw [upd_ne ntG, kI_kV]
      exact ht
    have s0 : Same H (upd (upd H G (.dT [])) G (.dT [(kI S, .int 0)])) := fun h o eh => by
      rw [upd_ne (ne_of_none eh nG), upd_ne (ne_of_none eh nG)]
      exact eh
    have eG0 : (upd (upd H G (.dT [])) G (.dT [(kI S, .int 0)])) G = some (.dT [(kI S, .int 0)]) := upd_same
    generalize upd (upd H G (.dT [])) G (.dT [(kI S, .int 0)]) = H0 at s0 eG0 ⊢
    refine ⟨.ref t, rfl, by show 1 ≤ sizeLine; decide, fun W nW => ?_⟩
    have sW := same_upd (o := .lst [V.ref t]) nW
    have eW0 := same_at (o := .lst [V.ref t]) nW
    have nGW : G ≠ W := ne_of_none eG0 nW
    have nHW : H W = none := s0.free nW
    have tr0 : TrA (upd H0 W (.lst [V.ref t])) [V.ref t] [S] := .cons (sW _ _ (s0 _ _ ht)) .nil
    refine while_ms (fun n σ H' => ∃ (y4 y5 y6 y7 : Option V) (kvs : List (List Key × V)) (ys : List V) (PP : List (List Int × Nat)) (M AA BB : List (List Int)) (dd : Nat), σ = [some x, some (.ref t), some (.ref G), some (.ref W), y4, y5, y6, y7] ∧ Same H H' ∧ H' G = some (.dT kvs) ∧ KN kvs PP ∧ H' W = some (.lst ys) ∧ TrA H' ys M ∧ Sr m es S (PP.map Prod.fst) M (fun _ _ _ => True) ∧ M = AA ++ BB ∧ Bf m es S PP AA BB dd ∧ n = 2 * (4096 - (PP.map Prod.fst).length) + M.length) _
      ⟨_, _, _, _, _, _, [(S, 0)], [S], [S], [], 0, rfl, s0.trans sW, sW _ _ eG0, KN.one S, eW0, tr0, Sr.start m es S _, rfl, Bf.start m es S, rfl⟩ ?_ ?_
    · rintro n σ H1 ⟨y4, y5, y6, y7, kvs, ys, PP, M, AA, BB, dd, rfl, s1, eG, kd, eW, tr, sr, hM, bf, rfl⟩
      refine ⟨.ref W, rfl, _, .inl ⟨_, SqL.of eW, rfl⟩, ?_⟩
      cases tr with
      | nil => exact iteF ⟨.ref G, rfl, q H1 G kvs PP s1 eG kd sr.nd sr.all bf.dst (sr.few12 isf iss hm)⟩
      | @cons rb r ys0 M0 hrb tr0 =>
        refine iteT ⟨.ref W, rfl, .inl ⟨rfl, _, SqL.of eW⟩, W, _, 0, 0, .ref rb, rfl, rfl, eW, by decide, by decide, by simp [seqIndex?], rfl, ?_⟩
        obtain ⟨A', B', d', hM', bf'⟩ : ∃ A' B' d', M0 = A' ++ B' ∧ Bf m es S PP (r :: A') B' d' := by
          cases AA with
          | nil =>
            have e : BB = r :: M0 := hM.symm
            subst e
            exact ⟨M0, [], dd + 1, (List.append_nil _).symm, bf.shift fun z hz nz u v p => sr.cl z hz nz u v p trivial⟩
          | cons a A0 =>
            rw [List.cons_append] at hM
            injection hM with e1 e2
            subst e1
            exact ⟨A0, BB, dd, e2, bf⟩
        subst hM'
        have hdr : Dst m es S d' r := bf'.lo r List.mem_cons_self
        have rL : r ∈ PP.map Prod.fst := sr.sub r List.mem_cons_self
        have rr := sr.rch r rL
        have isr := (rr.both isf iss).1
        have lr := isr.len
        have e0 : List.eraseIdx (V.ref rb :: ys0) 0 = ys0 := rfl
        rw [e0]
        have s2 : Same H (upd H1 W (.lst ys0)) := fun h o eh => by
          rw [upd_ne (ne_of_none eh nHW)]
          exact s1 _ _ eh
        have eG2 : (upd H1 W (.lst ys0)) G = some (.dT kvs) := by rw [upd_ne nGW]; exact eG
        have eW2 : (upd H1 W (.lst ys0)) W = some (.lst ys0) := upd_same
        have hrb2 := tt_lst (ys := ys0) eW _ _ hrb
        have tr2 := tr0.tt (tt_lst (ys := ys0) eW)
        generalize upd H1 W (.lst ys0) = H2 at s2 eG2 eW2 hrb2 tr2 ⊢
        have sr0 : Sr m es S (PP.map Prod.fst) (A' ++ B') (fun z u v => z = r → (u, v) ∈ (slidesP m es r).take 0) := ⟨sr.nd, sr.has, sr.rch, fun z hz => sr.sub z (List.mem_cons_of_mem _ hz), (fun z hz nz u v p o => sr.cl z hz (fun w => by
          rcases List.mem_cons.mp w with w | w
          · exact nomatch o w
          · exact nz w) u v p trivial), by
          have := sr.le
          rw [List.length_cons] at this
          omega⟩
        refine ⟨x, rfl, .ref rb, rfl, x, .ref rb, m, es, r, rfl, hm, isf, Dp.same s2 hx, Dp.ints (SqT.of hrb2), isr, fun H3 z s3 dz => ?_⟩
        obtain ⟨pa, xs, rfl, hpa, dA⟩ := Dp.tupI dz
        have xl : xs.length = (slidesP m es r).length := by rw [DpAll.length dA, List.length_map]
        refine ⟨pa, rfl, ⟨_, hpa⟩, for_tup (K := K) (a := pa) (xs := xs) (fun j σ H' => ∃ (y5 y6 y7 : Option V) (kvs : List (List Key × V)) (ys : List V) (PP' : List (List Int × Nat)) (B'' : List (List Int)), σ = [some x, some (.ref t), some (.ref G), some (.ref W), some (.ref rb), y5, y6, y7] ∧ Same H H' ∧ H' rb = some (.tup (r.map V.int)) ∧ KT K H3 H' ∧ H' G = some (.dT kvs) ∧ KN kvs PP' ∧ H' W = some (.lst ys) ∧ TrA H' ys (A' ++ B'') ∧
          Sr m es S (PP'.map Prod.fst) (A' ++ B'') (fun z u v => z = r → (u, v) ∈ (slidesP m es r).take j) ∧ Bf m es S PP' A' B'' d' ∧ 2 * (4096 - (PP'.map Prod.fst).length) + (A' ++ B'').length ≤ 2 * (4096 - (PP.map Prod.fst).length) + (A' ++ B').length ∧ r ∈ PP'.map Prod.fst) ?_ ?_ ?_ ?_⟩
        · exact ⟨_, _, _, kvs, ys0, PP, B', rfl, s2.trans s3, s3 _ _ hrb2, Same.kt (Same.refl _), s3 _ _ eG2, kd, s3 _ _ eW2, tr2.tt (Same.tt s3), sr0, bf'.pop, Nat.le_refl _, rL⟩
        · rintro j σ H' _ ⟨y5, y6, y7, kvs, ys, PP', B'', rfl, _, _, kt, _⟩
          exact kt _ _ hpa
        · rintro j y σ H4 hy ⟨y5, y6, y7, kvs, ys, PP', B'', rfl, s4, hrb4, kt4, eG4, kd4, eW4, tr4, sr4, bf4, ms4, rL4⟩
          obtain ⟨dd, hd, dp⟩ := DpAll.get dA hy
          rw [List.getElem?_map] at hd
          obtain ⟨⟨u, v⟩, hp, rfl⟩ := Option.map_eq_some_iff.mp hd
          obtain ⟨pp, rfl, hpp⟩ := Dp.prI dp
          have sl := List.mem_of_getElem? hp
          obtain ⟨mu, mv, ho⟩ := mem_slidesP.mp sl
          have tk : (slidesP m es r).take (j + 1) = (slidesP m es r).take j ++ [(u, v)] := by rw [List.take_add_one, hp]; rfl
          refine ⟨pp, _, rfl, kt4 _ _ hpp, rfl, _, _, rfl, _, _, rfl, rfl, ?_⟩
          refine ⟨x, rfl, .ref rb, rfl, .int u, rfl, .int v, rfl, x, .ref rb, m, es, r, u, v, rfl, hm, isf, Dp.same s4 hx, Dp.ints (SqT.of hrb4), isr, mu, mv, ho, fun H5 t5 s5 e5 => ?_⟩
          have eG5 := s5 _ _ eG4
          have eW5 := s5 _ _ eW4
          have hrb5 := s5 _ _ hrb4
          have tr5 := tr4.tt (Same.tt s5)
          have kt5 := kt4.trans (Same.kt s5)
          have s05 := s4.trans s5
          have nxt : ∀ {L' M' : List (List Int)}, Sr m es S L' M' (fun z a b => z = r → (a, b) ∈ (slidesP m es r).take j) → after r u v ∈ L' → Sr m es S L' M' (fun z a b => z = r → (a, b) ∈ (slidesP m es r).take (j + 1)) := fun h n => h.more fun z a b p ok => by
            by_cases e : z = r
            · subst e
              have w := ok rfl
              rw [tk] at w
              rcases List.mem_append.mp w with w | w
              · exact .inl fun _ => w
              · cases List.mem_singleton.mp w
                exact .inr n
            · exact .inl fun w => absurd w e
          refine ⟨.ref t5, rfl, .ref G, rfl, G, _, rfl, dgetT eG5 e5, _, rfl, ?_⟩
          rcases kd4.kd.val (after r u v) with ⟨hin, i, hi⟩ | ⟨hin, hi⟩
          · rw [hi]
            exact iteF ⟨_, _, _, kvs, ys, PP', B'', rfl, s05, hrb5, kt5, eG5, kd4, eW5, tr5, nxt sr4 hin, bf4, ms4, rL4⟩
          · rw [hi]
            have lL := sr4.few12 isf iss hm
            have sr9 := sr4.add hin (Rch.step rr sl)
            have lL9 := sr9.few12 isf iss hm
            rw [List.length_append, List.length_singleton] at lL9
            have ml := sr4.le
            have yl := tr5.length
            rw [List.length_append] at yl
            obtain ⟨i, hi1, hi2⟩ := kd4.val rL4
            obtain rfl : i = d' := (bf4.dst _ hi1).uniq hdr
            rw [List.append_assoc] at sr9
            rw [List.length_append] at ml ms4
            refine iteT ⟨.ref G, rfl, .ref rb, rfl, G, .int (i : Int), rfl, by rw [← hi2]; exact dgetT eG5 hrb5, _, _, rfl, rfl, .ref G, rfl, .ref t5, rfl, G, _, rfl, dputT eG5 e5 (by rw [kd4.kd.len]; exact small5000 (by omega)), ?_⟩
            have kt6 : KT K H5 (upd H5 G (.dT (putK kvs (kI (after r u v)) (.int ((i : Int) + 1))))) := kt_dT eG5
            have tt6 : TT H5 (upd H5 G (.dT (putK kvs (kI (after r u v)) (.int ((i : Int) + 1))))) := tt_dT eG5
            have eG6 : (upd H5 G (.dT (putK kvs (kI (after r u v)) (.int ((i : Int) + 1))))) G = some (.dT (putK kvs (kI (after r u v)) (.int ((i : Int) + 1)))) := upd_same
            have eW6 : (upd H5 G (.dT (putK kvs (kI (after r u v)) (.int ((i : Int) + 1))))) W = some (.lst ys) := by rw [upd_ne nGW.symm]; exact eW5
            have s6 : Same H (upd H5 G (.dT (putK kvs (kI (after r u v)) (.int ((i : Int) + 1))))) := fun h o eh => by
              rw [upd_ne (ne_of_none eh nG)]
              exact s05 _ _ eh
            generalize upd H5 G (.dT (putK kvs (kI (after r u v)) (.int ((i : Int) + 1)))) = H6 at kt6 tt6 eG6 eW6 s6 ⊢
            refine ⟨.ref W, rfl, .inl ⟨rfl, _, SqL.of eW6⟩, .ref t5, rfl, W, _, .ref t5, rfl, rfl, eW6, small5000 (by omega), ?_⟩
            have tt7 : TT H6 (upd H6 W (.lst (ys ++ [V.ref t5]))) := tt_lst eW6
            have tt57 := tt6.trans tt7
            refine ⟨_, _, _, _, _, PP' ++ [(after r u v, i + 1)], B'' ++ [after r u v], rfl, fun h o eh => ?_, tt57 _ _ hrb5, (kt5.trans kt6).trans (kt_lst eW6), by rw [upd_ne nGW]; exact eG6, kd4.put hin (by omega), upd_same, by rw [← List.append_assoc]; exact (tr5.tt tt57).snoc (tt57 _ _ e5), by rw [List.map_append]; exact nxt sr9 (List.mem_append_right _ (List.mem_singleton.mpr rfl)), bf4.new hdr sl hin, ?_, by rw [List.map_append]; exact List.mem_append_left _ rL4⟩
            · rw [upd_ne (ne_of_none eh nHW)]
              exact s6 _ _ eh
            · rw [List.map_append, List.length_append, List.length_append, List.length_append, List.length_append]
              show 2 * (4096 - ((PP'.map Prod.fst).length + 1)) + (A'.length + (B''.length + 1)) ≤ _
              rw [List.length_append] at ms4
              omega
        · rintro σ H4 ⟨y5, y6, y7, kvs, ys, PP', B'', rfl, s4, hrb4, kt4, eG4, kd4, eW4, tr4, sr4, bf4, ms4, _⟩
          rw [xl, List.take_length] at sr4
          refine ⟨_, ?_, _, _, _, _, kvs, ys, PP', _, A', B'', d', rfl, s4, eG4, kd4, eW4, tr4, sr4.more fun z a b p _ => .inl fun e => by rw [← e]; exact p, rfl, bf4, rfl⟩
          rw [List.length_cons]
          omega
    · rintro σ H' Q1 Q2 hQ ⟨v, e, k, tr, h⟩
      exact ⟨v, e, k, tr, hQ _ _ h⟩
theorem Rch.len {m : Nat} {es : List (Int × Int)} {S T : List Int} (f : IsFor m es) (iss : IsSet m es S) (h : Rch m es S T) : T.length = S.length := by
  induction h with
  | refl => rfl
  | @step T u v h p ih =>
    have iT := (h.both f iss).1
    have mu := (mem_slidesP.mp p).1
    rw [← ih]
    unfold after
    rw [srtI_length, List.length_append, List.length_singleton]
    have nd := iT.asc.nodup
    have : (T.filter fun l => !decide (l = u)) = T.erase u := by
      rw [nd.erase_eq_filter]
      refine List.filter_congr fun l _ => ?_
      by_cases e : l = u <;> simp [e]
    rw [this, List.length_erase_of_mem mu]
    have := List.length_pos_of_mem mu
    omega
theorem rows_ok {m : Nat} {es : List (Int × Int)} {S : List Int} {L : List (List Int)} (f : IsFor m es) (iss : IsSet m es S) (nd : L.Nodup) (h : ∀ r, r ∈ L ↔ Rch m es S r) : (∀ b ∈ L, b ≠ []) ∨ L.length ≤ 1 := by
  cases S with
  | nil =>
    right
    match L, nd, h with
    | [], _, _ => exact Nat.zero_le _
    | [_], _, _ => exact Nat.le_refl _
    | a :: b :: L, nd, h =>
      have e1 := Rch.len f iss ((h a).mp List.mem_cons_self)
      have e2 := Rch.len f iss ((h b).mp (List.mem_cons_of_mem _ List.mem_cons_self))
      have : a = b := by rw [List.length_eq_zero_iff.mp e1, List.length_eq_zero_iff.mp e2]
      exact absurd (by rw [this]; exact List.mem_cons_self) (List.nodup_cons.mp nd).1
  | cons s S =>
    left
    intro b hb e
    have := Rch.len f iss ((h b).mp hb)
    rw [e] at this
    cases this
end
end TL
namespace TL
open PySem PySem.Spec PyProof.Rows L2
section
variable {P : Program} {w : World} {K : PySem.W.Frag} {mg : Str → Option Value} {base : Heap}
/-! ### the program: the class, its members tracked -/
theorem keys_trR {H : Hp} : ∀ {kvs : List (List Key × V)} {as : List Addr} {bs : List (List Int)}, IsKeys H kvs as → kvs.map (·.1) = bs.map kI → TrR H (as.map V.ref) bs
  | [], _, bs, p, e => by
    cases p
    cases bs with
    | nil => exact .nil
    | cons _ _ => cases e
  | kv :: kvs, _, bs, p, e => by
    cases p with
    | cons h1 h2 =>
      cases bs with
      | nil => cases e
      | cons b bs =>
        rw [List.map_cons, List.map_cons] at e
        injection e with e1 e2
        rw [e1, kI_kV] at h1
        exact .cons h1 (keys_trR h2 e2)
def spClassOf (K : PySem.W.Frag) : Sp := fun vs H Q _ => ∃ (x : V) (t : Addr) (m : Nat) (es : List (Int × Int)) (S : List Int), vs = [x, .ref t] ∧ m ≤ 12 ∧ IsFor m es ∧ Dp K H x (forD m es) ∧ H t = some (.tup (S.map V.int)) ∧ IsSet m es S ∧
  ∀ (H' : Hp) (z : Addr) (ys : List V) (L : List (List Int)), Same H H' → H' z = some (.tup ys) → TrR H' ys (L.mergeSort (PySem.W.dataLe false intsD)) → L.Nodup → (∀ r, r ∈ L ↔ Rch m es S r) → L.length ≤ 4096 → Q (.ref z) H'
theorem ok_ClassOf {f : Addr} {fd : FuncData} (F : Fun K "class_of" "class_of" sClassOf f fd) (m_tuple : mg "tuple" = none) (m_sorted : mg "sorted" = none) (m_list : mg "list" = none)
    (oDistancesFrom : Own P w K mg base "distances_from" 4 ["forest", "setting"] (spDistancesFrom K)) :
    FnOk P w K mg base CX0 5 f fd ["forest", "setting"] (spClassOf K) := by
  refine F.ok scClassOf (fun vs H Q E h => ?_) (fun cdv A outer s H vs Q E hr h => ?_)
  · obtain ⟨x, t, m, es, S, rfl, _⟩ := h
    rfl
  · obtain ⟨x, t, m, es, S, rfl, hm, isf, hx, ht, iss, q⟩ := h
    refine ⟨_, (pss_one (ps_ret (pe_callTy (tupleK K) (by rfl) m_tuple (by decide +kernel) (pa_cons (pe_callB (sortRTK K hr.units) (by rfl) m_sorted (by decide +kernel) (pa_cons (pe_callTy (call_list_dT rfl) (by rfl) m_list (by decide +kernel) (pa_cons (pe_own oDistancesFrom (hr.mono (by decide)) (by rfl) (pa_cons (pv 0) (pa_cons (pv 1) pa_nil))) pa_nil)) pa_nil)) pa_nil)))), ?_⟩
    refine ⟨x, rfl, .ref t, rfl, x, t, m, es, S, rfl, hm, isf, hx, ht, iss, fun H1 G kvs PP s1 eG kn nd hL dst l4 => ?_⟩
    refine ⟨G, kvs, rfl, .inl eG, fun p as np hk => ?_⟩
    have sp := same_upd (o := .lst (as.map V.ref)) np
    have d1 : TrR H1 (as.map V.ref) (PP.map Prod.fst) := keys_trR hk kn.kd.1
    refine ⟨PP.map Prod.fst, p, _, rfl, SqL.of upd_same, d1.same sp, rows_ok isf iss nd hL, by omega, fun p2 ys np2 dy => ?_⟩
    have s2 := same_upd (o := .lst ys) np2
    refine ⟨p2, ys, rfl, .inl ⟨SqL.of upd_same, fun t3 n3 => ?_⟩⟩
    have s3 := same_upd (o := .tup ys) n3
    exact q _ t3 ys _ (((s1.trans sp).trans s2).trans s3) upd_same (dy.same (s2.trans s3)) nd hL l4
end
end TL
namespace TL
open PySem PySem.Spec PyProof.Rows L2
section
variable {P : Program} {w : World} {K : PySem.W.Frag} {mg : Str → Option Value} {base : Heap}
/-! ### distances, backward -/
section
variable {m : Nat} {es : List (Int × Int)} {S T : List Int}
theorem Rn.set {k : Nat} (f : IsFor m es) (sS : IsSet m es S) (h : Rn m es S k T) : IsSet m es T := (h.rch.both f sS).1
theorem Rn.head {u v : Int} : ∀ {k : Nat} {T : List Int}, (u, v) ∈ slidesP m es S → Rn m es (after S u v) k T → Rn m es S (k + 1) T := by
  intro k T p h
  induction h with
  | zero => exact .step .zero p
  | step _ q ih => exact .step ih q
theorem Rn.back {k : Nat} (f : IsFor m es) (sS : IsSet m es S) (h : Rn m es S k T) : Rn m es T k S := by
  induction h with
  | zero => exact .zero
  | @step k T u v h p ih =>
    have sT := h.set f sS
    have q := slide_back f sT p
    refine Rn.head q ?_
    rw [after_back f sT p]
    exact ih
theorem Dst.back {k : Nat} (f : IsFor m es) (sS : IsSet m es S) (h : Dst m es S k T) : Dst m es T k S :=
  ⟨h.1.back f sS, fun j hj => h.2 j (hj.back f (h.1.set f sS))⟩
/-- the first slide to a smaller distance -/
def ClsP (m : Nat) (es : List (Int × Int)) (T S : List Int) (k : Nat) (u v : Int) : Prop := Dst m es T k (after S u v) ∧ ∃ A B, slidesP m es S = A ++ (u, v) :: B ∧ ∀ q ∈ A, ∀ j, Dst m es T j (after S q.1 q.2) → k < j
theorem Dst.drop {j k : Nat} {u v : Int} (f : IsFor m es) (sS : IsSet m es S) (p : (u, v) ∈ slidesP m es S) (h : Dst m es T k S) (g : Dst m es T j (after S u v)) : k ≤ j + 1 := by
  have q := slide_back f sS p
  have := Rn.step g.1 q
  rw [after_back f sS p] at this
  exact h.2 _ this
theorem Dst.down {k : Nat} (f : IsFor m es) (sT : IsSet m es T) (h : Dst m es T (k + 1) S) : ∃ u v, (u, v) ∈ slidesP m es S ∧ Dst m es T k (after S u v) := by
  obtain ⟨S', u, v, h1, h2, rfl⟩ := h.prev
  have s' := h1.1.set f sT
  refine ⟨v, u, slide_back f s' h2, ?_⟩
  rw [after_back f s' h2]
  exact h1
end
/-! ### the program: the smallest shortest plan -/
theorem KN.get {kvs : List (List Key × V)} {PP : List (List Int × Nat)} {m : Nat} {es : List (Int × Int)} {T r : List Int} (h : KN kvs PP) (rc : ∀ r, r ∈ PP.map Prod.fst ↔ Rch m es T r) (ds : ∀ p ∈ PP, Dst m es T p.2 p.1) {n : Nat} (hd : Dst m es T n r) : valV kvs (kI r) = some (.int (n : Int)) := by
  obtain ⟨j, h1, h2⟩ := h.val ((rc r).mpr hd.1.rch)
  have e : j = n := (ds _ h1).uniq hd
  rw [h2, e]
theorem KN.got {kvs : List (List Key × V)} {PP : List (List Int × Nat)} {m : Nat} {es : List (Int × Int)} {S : List Int} (h : KN kvs PP) (rc : ∀ r, r ∈ PP.map Prod.fst ↔ Rch m es S r) (ds : ∀ p ∈ PP, Dst m es S p.2 p.1) (T : List Int) :
    (∃ n, Dst m es S n T ∧ valV kvs (kI T) = some (.int (n : Int))) ∨ ((∀ n, ¬ Dst m es S n T) ∧ valV kvs (kI T) = none) := by
  rcases h.kd.val T with ⟨mt, _⟩ | ⟨nt, e⟩
  · obtain ⟨n, h1, h2⟩ := h.val mt
    exact .inl ⟨n, ds _ h1, h2⟩
  · exact .inr ⟨fun n hn => nt ((rc T).mpr hn.1.rch), e⟩
def spCloserSlide (K : PySem.W.Frag) : Sp := fun vs H Q _ => ∃ (x : V) (t G : Addr) (m : Nat) (es : List (Int × Int)) (S T : List Int) (kvs : List (List Key × V)) (PP : List (List Int × Nat)) (k : Nat), vs = [x, .ref t, .ref G] ∧ m ≤ 12 ∧ IsFor m es ∧ Dp K H x (forD m es) ∧ H t = some (.tup (S.map V.int)) ∧ IsSet m es S ∧ IsSet m es T ∧
  H G = some (.dT kvs) ∧ KN kvs PP ∧ (∀ r, r ∈ PP.map Prod.fst ↔ Rch m es T r) ∧ (∀ p ∈ PP, Dst m es T p.2 p.1) ∧ Dst m es T (k + 1) S ∧
  ∀ (H' : Hp) (p : Addr) (u v : Int), Same H H' → ClsP m es T S k u v → H' p = some (.tup [.int u, .int v]) → Q (.ref p) H'
theorem ok_CloserSlide {f : Addr} {fd : FuncData} (F : Fun K "closer_slide" "closer_slide" sCloserSlide f fd)
    (oPossibleSlides : Own P w K mg base "possible_slides" 3 ["forest", "setting"] (spPossibleSlides K)) (oSlideLamp : Own P w K mg base "slide_lamp" 3 ["forest", "setting", "u", "v"] (spSlideLamp K)) :
    FnOk P w K mg base CX0 4 f fd ["forest", "setting", "distances"] (spCloserSlide K) := by
  refine F.ok scCloserSlide (fun vs H Q E h => ?_) (fun cdv A outer s H vs Q E hr h => ?_)
  · obtain ⟨x, t, G, m, es, S, T, kvs, PP, k, rfl, _⟩ := h
    rfl
  · obtain ⟨x, t, G, m, es, S, T, kvs, PP, k, rfl, hm, f, hx, ht, sS, sT, eG, kn, rc, ds, hk, q⟩ := h
    refine ⟨_, (pss_cons (ps_for PassesOwn.never rfl (piTK K (pe_own oPossibleSlides (hr.mono (by decide)) (by rfl) (pa_cons (pv 0) (pa_cons (pv 1) pa_nil)))) (pgTK K (pgs_cons (pg_name (i := 3) scCloserSlide.nd rfl (Or.inl rfl)) (pgs_cons (pg_name (i := 4) scCloserSlide.nd rfl (Or.inl rfl)) pgs_nil)))
    (pss_one (ps_if (pt_cmpR op_lt (pe_dget (hu_of hr) (pv 2) (pe_own oSlideLamp (hr.mono (by decide)) (by rfl) (pa_cons (pv 0) (pa_cons (pv 1) (pa_cons (pv 3) (pa_cons (pv 4) pa_nil))))) (fun _ _ => rfl)) (pe_dget (hu_of hr) (pv 2) (pv 1) (fun _ _ => rfl)) (nomark _)) (pss_one (ps_ret (pe_tup (pa_cons (pv 3) (pa_cons (pv 4) pa_nil))))) pss_nil)))
    (pss_one (ps_ret pe_non))), ?_⟩
    refine ⟨x, rfl, .ref t, rfl, x, .ref t, m, es, S, rfl, hm, f, hx, Dp.ints (SqT.of ht), sS, fun H1 pz s1 dp => ?_⟩
    obtain ⟨pa, xs, rfl, hpa, hpA⟩ := Dp.tupI dp
    have lx : xs.length = (slidesP m es S).length := by rw [DpAll.length hpA, List.length_map]
    refine ⟨pa, rfl, ⟨_, hpa⟩, for_tup (K := K) (a := pa) (xs := xs) (fun i σ H' => ∃ (y3 y4 : Option V), σ = [some x, some (.ref t), some (.ref G), y3, y4] ∧ Same H1 H' ∧ ∀ q ∈ (slidesP m es S).take i, ∀ j, Dst m es T j (after S q.1 q.2) → k < j) ?_ ?_ ?_ ?_⟩
    · exact ⟨_, _, rfl, Same.refl _, fun q hq => nomatch hq⟩
    · rintro i σ H' _ ⟨y3, y4, rfl, s2, _⟩
      exact Same.tup s2 hpa
    · rintro i w σ H2 hw ⟨y3, y4, rfl, s2, no⟩
      obtain ⟨dd, hd, dw⟩ := DpAll.get hpA hw
      rw [List.getElem?_map] at hd
      obtain ⟨⟨u, v⟩, huv, rfl⟩ := Option.map_eq_some_iff.mp hd
      have muv := List.mem_of_getElem? huv
      obtain ⟨p1, p2, p3⟩ := mem_slidesP.mp muv
      obtain ⟨wa, rfl, hwa⟩ := Dp.prI (Dp.same s2 dw)
      refine ⟨wa, _, rfl, hwa, rfl, _, _, rfl, _, _, rfl, rfl, ?_⟩
      have s12 := s1.trans s2
      have h1 : Rch m es T (after S u v) := .step hk.1.rch muv
      obtain ⟨n, hn⟩ := Rch.rn h1
      obtain ⟨j, hj⟩ := Dst.least hn
      have dj := Dst.drop f sS muv hk hj
      refine ⟨.ref G, rfl, x, rfl, .ref t, rfl, .int u, rfl, .int v, rfl, x, .ref t, m, es, S, u, v, rfl, hm, f, Dp.same s12 hx, Dp.ints (SqT.of (s12 _ _ ht)), sS, p1, p2, p3, fun H3 t3 s3 et3 => ?_⟩
      have s13 := s12.trans s3
      refine ⟨G, .int (j : Int), rfl, by rw [← kn.get rc ds hj]; exact dgetT (s13 _ _ eG) et3, .ref G, rfl, .ref t, rfl, G, .int ((k + 1 : Nat) : Int), rfl, by rw [← kn.get rc ds hk]; exact dgetT (s13 _ _ eG) (s13 _ _ ht), _, _, rfl, rfl, _, rfl, ?_⟩
      by_cases c : j ≤ k
      · obtain rfl : j = k := by omega
        rw [decide_eq_true (show (j : Int) < ((j + 1 : Nat) : Int) by omega)]
        refine iteT ⟨.int u, rfl, .int v, rfl, by show 2 ≤ sizeLine; decide, fun p np => ?_⟩
        obtain ⟨hi, ei⟩ := List.getElem?_eq_some_iff.mp huv
        refine q _ p u v (s13.trans (same_upd np)) ⟨hj, (slidesP m es S).take i, (slidesP m es S).drop (i + 1), ?_, no⟩ upd_same
        have := List.take_append_drop i (slidesP m es S)
        rw [List.drop_eq_getElem_cons hi, ei] at this
        exact this.symm
      · rw [decide_eq_false (show ¬ (j : Int) < ((k + 1 : Nat) : Int) by omega)]
        refine iteF ⟨_, _, rfl, s2.trans s3, fun q hq => ?_⟩
        rw [List.take_add_one, huv] at hq
        rcases List.mem_append.mp hq with hq | hq
        · exact no q hq
        · cases List.mem_singleton.mp hq
          intro j' hj'
          have := hj'.uniq hj
          omega
    · rintro σ H2 ⟨y3, y4, rfl, s2, no⟩
      rw [lx, List.take_length] at no
      obtain ⟨u, v, p, hd⟩ := hk.down f sT
      exact absurd (no _ p _ hd) (Nat.lt_irrefl _)
/-- the plan found by the first slide to a smaller distance, again and again -/
inductive ShP (m : Nat) (es : List (Int × Int)) (T : List Int) : List Int → List (Int × Int) → Prop
  | nil : ShP m es T T []
  | cons {S : List Int} {k : Nat} {u v : Int} {ps : List (Int × Int)} : Dst m es T (k + 1) S → ClsP m es T S k u v → ShP m es T (after S u v) ps → ShP m es T S ((u, v) :: ps)
theorem ClsP.mem {m : Nat} {es : List (Int × Int)} {S T : List Int} {k : Nat} {u v : Int} (h : ClsP m es T S k u v) : (u, v) ∈ slidesP m es S := by
  obtain ⟨_, A, B, e, _⟩ := h
  rw [e]
  exact List.mem_append_right _ List.mem_cons_self
theorem ShP.walk {m : Nat} {es : List (Int × Int)} {T : List Int} : ∀ {ps : List (Int × Int)} {S : List Int}, ShP m es T S ps → TL.walk m es S ps = some T ∧ Dst m es T ps.length S
  | [], _, .nil => ⟨rfl, .zero⟩
  | (u, v) :: ps, S, .cons hk hc h => by
    obtain ⟨h1, h2⟩ := ShP.walk h
    have e := hc.1.uniq h2
    subst e
    refine ⟨?_, hk⟩
    rw [walk_push hc.mem]
    exact h1
def spShortestPlan (K : PySem.W.Frag) : Sp := fun vs H Q _ => ∃ (x : V) (t t2 : Addr) (m : Nat) (es : List (Int × Int)) (S T : List Int), vs = [x, .ref t, .ref t2] ∧ m ≤ 12 ∧ IsFor m es ∧ Dp K H x (forD m es) ∧ H t = some (.tup (S.map V.int)) ∧ H t2 = some (.tup (T.map V.int)) ∧ IsSet m es S ∧ IsSet m es T ∧
  ∀ (H' : Hp) (r : V), Same H H' → ((¬ Rch m es S T ∧ r = .non) ∨ (Rch m es S T ∧ ∃ (b : Addr) (xs : List V) (ps : List (Int × Int)), ShP m es T S ps ∧ r = .ref b ∧ H' b = some (.tup xs) ∧ DpAll K H' xs (ps.map prD) ∧ ps.length ≤ 4096)) → Q r H'
theorem ok_ShortestPlan {f : Addr} {fd : FuncData} (F : Fun K "shortest_plan" "shortest_plan" sShortestPlan f fd) (m_tuple : mg "tuple" = none)
    (oDistancesFrom : Own P w K mg base "distances_from" 4 ["forest", "setting"] (spDistancesFrom K)) (oCloserSlide : Own P w K mg base "closer_slide" 4 ["forest", "setting", "distances"] (spCloserSlide K)) (oSlideLamp : Own P w K mg base "slide_lamp" 3 ["forest", "setting", "u", "v"] (spSlideLamp K)) :
    FnOk P w K mg base CX0 5 f fd ["forest", "first", "second"] (spShortestPlan K) := by
  refine F.ok scShortestPlan (fun vs H Q E h => ?_) (fun cdv A outer s H vs Q E hr h => ?_)
  · obtain ⟨x, t, t2, m, es, S, T, rfl, _⟩ := h
    rfl
  · obtain ⟨x, t, t2, m, es, S, T, rfl, hm, f, hx, ht, ht2, sS, sT, q⟩ := h
    refine ⟨_, (pss_cons (ps_set (i := 3) scShortestPlan.nd rfl (.inl rfl) (pe_own oDistancesFrom (hr.mono (by decide)) (by rfl) (pa_cons (pv 0) (pa_cons (pv 2) pa_nil))))
    (pss_cons (ps_if (pt_cmp (pc_dnotin (hu_of hr) (pv 1) (pv 3))) (pss_one (ps_ret pe_non)) pss_nil)
    (pss_cons (ps_set (i := 4) scShortestPlan.nd rfl (.inl rfl) (pe_lst pa_nil))
    (pss_cons (ps_set (i := 5) scShortestPlan.nd rfl (.inl rfl) (pv 1))
    (pss_cons (ps_while PassesOwn.never (pt_cmpR (neDK K hr.units) (pv 5) (pv 2) (nomark _)) (pss_cons (ps_asg (pe_own oCloserSlide (hr.mono (by decide)) (by rfl) (pa_cons (pv 0) (pa_cons (pv 5) (pa_cons (pv 3) pa_nil)))) (pgTK K (pgs_cons (pg_name (i := 6) scShortestPlan.nd rfl (Or.inl rfl)) (pgs_cons (pg_name (i := 7) scShortestPlan.nd rfl (Or.inl rfl)) pgs_nil))))
    (pss_cons (ps_expr (bmK K PySem.F.plainAttrs_list PySem.F.slot_list_append PySem.F.type_list_append mt_append (pv 4) (pa_cons (pe_tup (pa_cons (pv 6) (pa_cons (pv 7) pa_nil))) pa_nil)))
    (pss_one (ps_set (i := 5) scShortestPlan.nd rfl (.inl rfl) (pe_own oSlideLamp (hr.mono (by decide)) (by rfl) (pa_cons (pv 0) (pa_cons (pv 5) (pa_cons (pv 6) (pa_cons (pv 7) pa_nil))))))))))
    (pss_one (ps_ret (pe_callTy (tupleK K) (by rfl) m_tuple (by decide +kernel) (pa_cons (pv 4) pa_nil))))))))), ?_⟩
    refine ⟨x, rfl, .ref t2, rfl, x, t2, m, es, T, rfl, hm, f, hx, ht2, sT, fun H1 G kvs PP s1 eG kn nd rc ds l4 => ?_⟩
    refine ⟨.ref t, rfl, .ref G, rfl, G, _, rfl, dgetT eG (s1 _ _ ht), _, rfl, ?_⟩
    rcases kn.got rc ds S with ⟨n, hn, e⟩ | ⟨hn, e⟩
    rotate_left
    · rw [e]
      refine iteT (q _ _ s1 (.inl ⟨fun r => ?_, rfl⟩))
      obtain ⟨k, hk⟩ := Rch.rn (r.both f sS).2
      obtain ⟨j, hj⟩ := Dst.least hk
      exact hn j hj
    rw [e]
    refine iteF ?_
    have few := hn.few (fun r hr => (rc r).mpr hr) l4
    refine ⟨Nat.zero_le _, fun L nL => ?_⟩
    have sL := same_upd (o := .lst []) nL
    have eL := same_at (o := .lst []) nL
    have nHL : H L = none := s1.free nL
    have eG2 := sL _ _ eG
    have s2 := s1.trans sL
    generalize upd H1 L _ = H2 at eL eG2 s2 ⊢
    refine ⟨.ref t, rfl, ?_⟩
    refine while_ms (fun k σ H' => ∃ (tl : Addr) (y6 y7 : Option V) (ys : List V) (A : List (Int × Int)) (S' : List Int), σ = [some x, some (.ref t), some (.ref t2), some (.ref G), some (.ref L), some (.ref tl), y6, y7] ∧ Same H H' ∧ H' G = some (.dT kvs) ∧ H' L = some (.lst ys) ∧ DpAll K H' ys (A.map prD) ∧ H' tl = some (.tup (S'.map V.int)) ∧ IsSet m es S' ∧ Dst m es T k S' ∧ ys.length + k = n ∧ ∀ ps, ShP m es T S' ps → ShP m es T S (A ++ ps)) n
      ⟨t, _, _, [], [], S, rfl, s2, eG2, eL, .nil, s2 _ _ ht, sS, hn, Nat.zero_add _, fun ps h => h⟩ ?_ ?_
    · rintro k σ H3 ⟨tl, y6, y7, ys, A, S', rfl, s3, eG3, eL3, dA3, etl, sS', hk, lk, sh⟩
      refine ⟨.ref tl, rfl, .ref t2, rfl, intsD S', intsD T, Dp.ints (SqT.of etl), Dp.ints (SqT.of (s3 _ _ ht2)), shaped_intT _, shaped_intT _, _, rfl, ?_⟩
      rw [eqv_intsD]
      cases k with
      | zero =>
        have e0 := hk.zeroI
        subst e0
        rw [decide_eq_true rfl]
        refine iteF ?_
        refine ⟨.ref L, rfl, L, ys, rfl, .inl ⟨SqL.of eL3, fun z nz => ?_⟩⟩
        have sz := same_upd (o := .tup ys) nz
        have sh0 := sh [] .nil
        rw [List.append_nil] at sh0
        have ly : ys.length = A.length := by rw [DpAll.length dA3, List.length_map]
        exact q _ _ (s3.trans sz) (.inr ⟨(hn.1.rch.both f sT).2, z, ys, A, sh0, rfl, upd_same, DpAll.same sz dA3, by omega⟩)
      | succ k =>
        have ne : S' ≠ T := fun e0 => by
          subst e0
          have := hk.uniq .zero
          omega
        rw [decide_eq_false ne]
        refine iteT ?_
        refine ⟨x, rfl, .ref tl, rfl, .ref G, rfl, x, tl, G, m, es, S', T, kvs, PP, k, rfl, hm, f, Dp.same s3 hx, etl, sS', sT, eG3, kn, rc, ds, hk, fun H4 p u v s4 hc ep => ?_⟩
        refine ⟨p, _, rfl, SqT.of ep, rfl, _, _, rfl, _, _, rfl, rfl, ?_⟩
        refine ⟨.ref L, rfl, .inl ⟨rfl, _, SqL.of (s4 _ _ eL3)⟩, .int u, rfl, .int v, rfl, by show 2 ≤ sizeLine; decide, fun p2 np2 => ?_⟩
        have sp := same_upd (o := .tup [V.int u, V.int v]) np2
        have ep2 := same_at (o := .tup [V.int u, V.int v]) np2
        have s35 := s4.trans sp
        have eL5 := s35 _ _ eL3
        have eG5 := s35 _ _ eG3
        have etl5 := s35 _ _ etl
        have dA5 := DpAll.same s35 dA3
        have s05 := s3.trans s35
        generalize upd H4 p2 _ = H5 at ep2 eL5 eG5 etl5 dA5 s05 ⊢
        have kt : KT K H5 (upd H5 L (.lst (ys ++ [V.ref p2]))) := kt_lst eL5
        refine ⟨L, ys, .ref p2, rfl, rfl, eL5, small5000 (by omega), ?_⟩
        have s06 : Same H (upd H5 L (.lst (ys ++ [V.ref p2]))) := fun h o eh => by
          rw [upd_ne (ne_of_none eh nHL)]
          exact s05 _ _ eh
        have eG6 : (upd H5 L (.lst (ys ++ [V.ref p2]))) G = some (.dT kvs) := by
          rw [upd_ne fun z => by rw [z, eL5] at eG5; cases eG5]
          exact eG5
        have etl6 : (upd H5 L (.lst (ys ++ [V.ref p2]))) tl = some (.tup (S'.map V.int)) := by
          rw [upd_ne fun z => by rw [z, eL5] at etl5; cases etl5]
          exact etl5
        have eL6 : (upd H5 L (.lst (ys ++ [V.ref p2]))) L = some (.lst (ys ++ [V.ref p2])) := upd_same
        have dA6 : DpAll K (upd H5 L (.lst (ys ++ [V.ref p2]))) (ys ++ [V.ref p2]) ((A ++ [(u, v)]).map prD) := by
          rw [List.map_append]
          exact DpAll.append (DpAll.kt kt dA5 (only_prs _)) (.cons (Dp.kt kt (Dp.pr (SqT.of ep2)) (only_pr _)) .nil)
        generalize upd H5 L _ = H6 at s06 eG6 etl6 eL6 dA6 ⊢
        have muv := hc.mem
        obtain ⟨p1, p2', p3⟩ := mem_slidesP.mp muv
        refine ⟨x, rfl, .ref tl, rfl, .int u, rfl, .int v, rfl, x, .ref tl, m, es, S', u, v, rfl, hm, f, Dp.same s06 hx, Dp.ints (SqT.of etl6), sS', p1, p2', p3, fun H7 t7 s7 et7 => ?_⟩
        refine ⟨k, Nat.lt_succ_self k, t7, _, _, ys ++ [V.ref p2], A ++ [(u, v)], after S' u v, rfl, s06.trans s7, s7 _ _ eG6, s7 _ _ eL6, DpAll.same s7 dA6, et7, IsSet.slide f sS' muv, hc.1, by rw [List.length_append, List.length_singleton]; omega, fun ps h => ?_⟩
        rw [List.append_assoc]
        exact sh _ (.cons hk hc h)
    · rintro σ H' Q1 Q2 hQ ⟨v1, e1, v2, e2, dd, ee, g1, g2, g3, g4, b, hb, q1⟩
      exact ⟨v1, e1, v2, e2, dd, ee, g1, g2, g3, g4, b, hb, hQ _ _ q1⟩
/-! ### the program: steps between -/
def spStepsBetween (K : PySem.W.Frag) : Sp := fun vs H Q _ => ∃ (x : V) (t t2 : Addr) (m : Nat) (es : List (Int × Int)) (S T : List Int), vs = [x, .ref t, .ref t2] ∧ m ≤ 12 ∧ IsFor m es ∧ Dp K H x (forD m es) ∧ H t = some (.tup (S.map V.int)) ∧ IsSet m es S ∧ H t2 = some (.tup (T.map V.int)) ∧
  ∀ (H' : Hp) (z : V), Same H H' → ((∃ n, Dst m es S n T ∧ z = .int (n : Int)) ∨ ((∀ n, ¬ Dst m es S n T) ∧ z = .non)) → Q z H'
theorem ok_StepsBetween {f : Addr} {fd : FuncData} (F : Fun K "steps_between" "steps_between" sStepsBetween f fd)
    (oDistancesFrom : Own P w K mg base "distances_from" 4 ["forest", "setting"] (spDistancesFrom K)) :
    FnOk P w K mg base CX0 5 f fd ["forest", "first", "second"] (spStepsBetween K) := by
  refine F.ok scStepsBetween (fun vs H Q E h => ?_) (fun cdv A outer s H vs Q E hr h => ?_)
  · obtain ⟨x, t, t2, m, es, S, T, rfl, _⟩ := h
    rfl
  · obtain ⟨x, t, t2, m, es, S, T, rfl, hm, isf, hx, ht, iss, ht2, q⟩ := h
    refine ⟨_, (pss_one (ps_ret (pe_dget1 (hu_of hr) (pe_own oDistancesFrom (hr.mono (by decide)) (by rfl) (pa_cons (pv 0) (pa_cons (pv 1) pa_nil))) (pv 2) ⟨rfl, rfl, rfl, rfl⟩))), ?_⟩
    refine ⟨x, rfl, .ref t, rfl, x, t, m, es, S, rfl, hm, isf, hx, ht, iss, fun H1 G kvs PP s1 eG kn nd rc ds l4 => ?_⟩
    refine ⟨G, rfl, .inr ⟨_, .inl eG⟩, .ref t2, rfl, _, dgetT eG (s1 _ _ ht2), ?_⟩
    rcases kn.got rc ds T with ⟨n, hn, e⟩ | ⟨hn, e⟩
    · rw [e]
      exact q _ _ s1 (.inl ⟨n, hn, rfl⟩)
    · rw [e]
      exact q _ _ s1 (.inr ⟨hn, rfl⟩)
end
end TL
namespace TL
open PySem PySem.Spec PyProof.Rows L2
section
variable {P : Program} {w : World} {K : PySem.W.Frag} {mg : Str → Option Value} {base : Heap}
/-! ### neighbours by the law -/
def spLNear (K : PySem.W.Frag) : Sp := fun vs H Q _ => ∃ (x : V) (m : Nat) (es : List (Int × Int)) (v : Int), vs = [x, .int v] ∧ m ≤ 13 ∧ IsFor m es ∧ Dp K H x (forD m es) ∧
  ∀ (H' : Hp) (D : Addr), Same H H' → H D = none → H' D = some (.lst ((nearL m es v).map V.int)) → Q (.ref D) H'
theorem near_eq {m : Nat} {es : List (Int × Int)} (f : IsFor m es) (v : Int) : (es.filter fun p => decide (v = p.1) || decide (v = p.2)).map (fun p => p.1 + p.2 - v) = nearL m es v := by
  refine asc_ext ?_ (nearL_asc m es v) fun o => ?_
  · refine List.pairwise_map.mpr ((List.Pairwise.and_mem.mp (f.asc.filter _)).imp ?_)
    rintro p q ⟨hp, hq, h⟩
    obtain ⟨p1, p2⟩ := List.mem_filter.mp hp
    obtain ⟨q1, q2⟩ := List.mem_filter.mp hq
    have rp := f.rng p p1
    have rq := f.rng q q1
    rw [Bool.or_eq_true, decide_eq_true_eq, decide_eq_true_eq] at p2 q2
    rcases h with h | h <;> omega
  · rw [List.mem_map, mem_nearL, f.mem_ord]
    constructor
    · rintro ⟨p, hp, rfl⟩
      obtain ⟨p1, p2⟩ := List.mem_filter.mp hp
      have rp := f.rng p p1
      rw [Bool.or_eq_true, decide_eq_true_eq, decide_eq_true_eq] at p2
      rcases p2 with rfl | rfl
      · refine ⟨by omega, .inr ?_⟩
        rw [show p.1 + p.2 - p.1 = p.2 by omega]
        exact p1
      · refine ⟨by omega, .inl ?_⟩
        rw [show p.1 + p.2 - p.2 = p.1 by omega]
        exact p1
    · rintro ⟨_, h | h⟩
      · exact ⟨(o, v), List.mem_filter.mpr ⟨h, by simp⟩, by show o + v - v = o; omega⟩
      · exact ⟨(v, o), List.mem_filter.mpr ⟨h, by simp⟩, by show v + o - v = o; omega⟩
theorem inV_two (v a b : Int) : inV (.int v) [V.int a, V.int b] = (decide (v = a) || decide (v = b)) := by
  have := inV_ints v [a, b]
  rw [show [V.int a, V.int b] = [a, b].map V.int from rfl, this]
  by_cases h1 : v = a
  · simp [h1]
  · by_cases h2 : v = b <;> simp [h1, h2]
theorem ok_LNear {f : Addr} {fd : FuncData} {k : Nat} (F : Fun K "_law_near" "_law_near" sLNear f fd) :
    FnOk P w K mg base CX0 (k + 1) f fd ["_law_forest_here", "_law_vertex"] (spLNear K) := by
  refine F.ok scLNear (fun vs H Q E h => ?_) (fun cdv A outer s H vs Q E hr h => ?_)
  · obtain ⟨x, m, es, v, rfl, _⟩ := h
    rfl
  · obtain ⟨x, m, es, v, rfl, hm, isf, hx, q⟩ := h
    obtain ⟨a, b, xs, rfl, ha, hb, hA⟩ := Dp.forI hx
    have ec := isf.count
    refine ⟨_, (pss_one (ps_ret (pe_lc (own := [("_law_a", 2), ("_law_b", 3)]) (g := (gTup K 2 (gCons (gName 2) (gCons (gName 3) gNil)))) rfl scLNear.nd (piTK K (pe_ix (ixTK K) (pv 0) pe_int (fun _ _ => rfl)))
      (blkOk_by (own := [("_law_a", 2), ("_law_b", 3)]) (N := nLNear) (sc := (defScope sLNear)) (by decide +kernel))
      (fun _ _ _ _ _ => (pgTK K (pgs_cons (pg_name (i := 2) scLNear.nd rfl (Or.inl rfl)) (pgs_cons (pg_name (i := 3) scLNear.nd rfl (Or.inl rfl)) pgs_nil)))) (fun _ _ _ _ _ => (pts_one (pt_cmpR (inK K) (pv 1) (pe_tup (pa_cons (pv 2) (pa_cons (pv 3) pa_nil))) (by rfl))))
      (fun _ _ _ _ _ => (pe_op op_sub (pe_op op_add (pv 2) (pv 3)) (pv 1)))))), ?_⟩
    refine ⟨.ref a, rfl, a, _, 1, .ref b, rfl, rfl, ha, atI_nat (j := 1) rfl, b, rfl, ⟨_, hb⟩, fun D nD => ?_⟩
    refine lc_tupP (K := K) (fun p => decide (v = p.1) || decide (v = p.2)) (fun p => .int (p.1 + p.2 - v)) nD hb hA (fun _ _ => rfl) (fun o _ H' R s1 hR => ?_) (fun o _ _ H' R s1 hR => ?_) (fun o => only_int _) (by omega) (fun H2 ys s2 eD dy => ?_)
    · refine ⟨.int v, rfl, .int o.1, rfl, .int o.2, rfl, by show 2 ≤ sizeLine; decide, fun t nt => ⟨t, _, rfl, .inr (SqT.of upd_same), rfl, flat_ints [o.1, o.2], _, rfl, ?_⟩⟩
      show R (if false = true then _ else inV (V.int v) [V.int o.1, V.int o.2]) _
      rw [if_neg Bool.false_ne_true, inV_two]
      exact hR _ (same_upd nt)
    · exact ⟨.int o.1, rfl, .int o.2, rfl, _, _, rfl, rfl, .int v, rfl, _, _, rfl, rfl, hR H' _ (Same.refl _) (.int _)⟩
    have e1 : ys = (nearL m es v).map V.int := by
      rw [← near_eq isf v]
      exact DpAll.ints (by rw [List.map_map]; exact dy)
    subst e1
    exact q _ D s2 nD eD
/-! ### setting -/
theorem set_grow {m : Nat} {es : List (Int × Int)} (f : IsFor m es) {S : List Int} {v : Int} (hS : ∀ u ∈ S, ∀ z ∈ S, ordP u z ∉ es) (hr : ∀ u ∈ S, 0 ≤ u ∧ u < m)
    (hv : (nearL m es v).filter (fun o => decide (o ∈ S)) = []) : ∀ u ∈ S ++ [v], ∀ z ∈ S ++ [v], ordP u z ∉ es := by
  have key : ∀ u ∈ S, ordP u v ∉ es := fun u hu h => by
    have : u ∈ (nearL m es v).filter (fun o => decide (o ∈ S)) := List.mem_filter.mpr ⟨mem_nearL.mpr ⟨hr u hu, h⟩, decide_eq_true hu⟩
    rw [hv] at this
    cases this
  intro u hu z hz
  rcases List.mem_append.mp hu with h1 | h1
  · rcases List.mem_append.mp hz with h2 | h2
    · exact hS u h1 z h2
    · rw [List.mem_singleton.mp h2]
      exact key u h1
  · rw [List.mem_singleton.mp h1]
    rcases List.mem_append.mp hz with h2 | h2
    · rw [ordP_comm]
      exact key z h2
    · rw [List.mem_singleton.mp h2]
      intro h
      have := f.rng _ h
      unfold ordP at this
      rw [if_pos (Int.le_refl _)] at this
      simp only at this
      omega
def spLSetting (K : PySem.W.Frag) : Sp := fun vs H Q _ => ∃ (d r c : Addr) (n : Nat) (x : V) (m : Nat) (es : List (Int × Int)), vs = [.ref d, x] ∧ Dw H d r c n ∧ n < 800000 ∧ m ≤ 12 ∧ IsFor m es ∧ Dp K H x (forD m es) ∧
  ∀ (H' : Hp) (t : Addr) (S : List Int), Fm d r H H' → Dw H' d r c (n + 30) → IsSet m es S → H t = none → H' t = some (.tup (S.map V.int)) → Q (.ref t) H'
theorem ok_LSetting {f : Addr} {fd : FuncData} (F : Fun K "_law_setting" "_law_setting" sLSetting f fd) (m_list : mg "list" = none) (m_range : mg "range" = none) (m_tuple : mg "tuple" = none) (m_sorted : mg "sorted" = none) (m_len : mg "len" = none)
    (oLNext : Own P w K mg base "_law_next" 1 ["_law_state", "_law_many"] spLNext) (oLShuffled : Own P w K mg base "_law_shuffled" 2 ["_law_state", "_law_items"] (spLShuffled K))
    (oLNear : Own P w K mg base "_law_near" 1 ["_law_forest_here", "_law_vertex"] (spLNear K)) :
    FnOk P w K mg base CX0 3 f fd ["_law_state", "_law_forest_here"] (spLSetting K) := by
  refine F.ok scLSetting (fun vs H Q E h => ?_) (fun cdv A outer s H vs Q E hr h => ?_)
  · obtain ⟨d, r, c, n, x, m, es, rfl, _⟩ := h
    rfl
  · obtain ⟨d, r, c, n, x, m, es, rfl, hD, hn, hm, isf, hx, q⟩ := h
    refine ⟨_, (pss_cons (ps_asg (pe_tup (pa_cons (pe_ix (ixLK K) (pe_lst (pa_cons pe_int (pa_cons pe_int (pa_cons pe_int pa_nil)))) (pe_own oLNext (hr.mono (by decide)) (by rfl) (pa_cons (pv 0) (pa_cons pe_int pa_nil))) (fun _ _ => rfl)) (pa_cons (pe_lst pa_nil) pa_nil))) (pgTK K (pgs_cons (pg_name (i := 2) scLSetting.nd rfl (Or.inl rfl)) (pgs_cons (pg_name (i := 3) scLSetting.nd rfl (Or.inr rfl)) pgs_nil))))
    (pss_cons (ps_for PassesOwn.never rfl (piLK K (pe_own oLShuffled (hr.mono (by decide)) (by rfl) (pa_cons (pv 0) (pa_cons (pe_listRg rfl (by rfl) m_list (prg_1 (by rfl) m_range (pe_ix (ixTK K) (pv 1) pe_int (fun _ _ => rfl)))) pa_nil)))) (pg_name (i := 4) scLSetting.nd rfl (Or.inl rfl))
    (pss_cons (ps_set (i := 5) scLSetting.nd rfl (.inl rfl) (pe_own oLNear (hr.mono (by decide)) (by rfl) (pa_cons (pv 1) (pa_cons (pv 4) pa_nil))))
    (pss_one (ps_if (PW.pt (pw_and (pt_cmpR op_lt (pe_callB (lenK K) (by rfl) m_len (by decide +kernel) (pa_cons (pv 3) pa_nil)) (pv 2) (nomark _)) (pw_and1 (pt_cmpR (eqDK K hr.units) (pe_lc (own := [("_law_lamp", 6)]) (g := (gName 6)) rfl scLSetting.nd (piLK K (pv 5))
      (blkOk_by (own := [("_law_lamp", 6)]) (N := nLSetting) (sc := (defScope sLSetting)) (by decide +kernel))
      (fun _ _ _ _ _ => (pg_name (i := 6) scLSetting.nd rfl (Or.inl rfl))) (fun _ _ _ _ _ => (pts_one (pt_cmpR (inK K) (pv 6) (pv 3) (by rfl))))
      (fun _ _ _ _ _ => (pv 6))) (pe_lst pa_nil) (nomark _))))) (pss_one (ps_expr (bmK K PySem.F.plainAttrs_list PySem.F.slot_list_append PySem.F.type_list_append mt_append (pv 3) (pa_cons (pv 4) pa_nil)))) pss_nil))))
    (pss_one (ps_ret (pe_callTy (tupleK K) (by rfl) m_tuple (by decide +kernel) (pa_cons (pe_callB (sortK K hr.units) (by rfl) m_sorted (by decide +kernel) (pa_cons (pv 3) pa_nil)) pa_nil)))))), ?_⟩
    -- limit, found
    refine ⟨by show 3 ≤ sizeLine; decide, fun p1 n1 => ?_⟩
    have sp1 := same_upd (o := .lst [V.int 2, V.int 4, V.int 12]) n1
    have ep1 := same_at (o := .lst [V.int 2, V.int 4, V.int 12]) n1
    have offp := hD.off n1
    refine ⟨.ref d, rfl, d, r, c, _, 3, rfl, by decide, by decide, hD.same sp1, by omega, fun H1 y y0 y1 f1 d1 => ?_⟩
    have ep2 := f1 _ _ offp.1 offp.2.1 ep1
    obtain ⟨lim, glim⟩ : ∃ lim : Int, [V.int 2, V.int 4, V.int 12][y.toNat]? = some (.int lim) := by
      have : y.toNat = 0 ∨ y.toNat = 1 ∨ y.toNat = 2 := by omega
      rcases this with e | e | e <;> rw [e] <;> exact ⟨_, rfl⟩
    refine ⟨p1, _, _, _, rfl, rfl, SqL.of ep2, at_of (j := y.toNat) (by omega) glim, Nat.zero_le _, fun L nL => ?_⟩
    have s1 := same_upd (o := .lst []) nL
    have eL1 := same_at (o := .lst []) nL
    have offL := d1.off nL
    refine ⟨by show 2 ≤ sizeLine; decide, fun t nt => ⟨t, _, rfl, SqT.of upd_same, rfl, .int lim, [.ref L], rfl, .ref L, [], rfl, rfl, ?_⟩⟩
    have st := same_upd (o := .tup [.int lim, .ref L]) nt
    have f2 : Fm d r H (upd (upd H1 L (.lst [])) t (.tup [.int lim, .ref L])) := (((Same.fm sp1).trans f1).trans (Same.fm s1)).trans (Same.fm st)
    have eL2 := st _ _ eL1
    have d2 := (d1.same s1).same st
    have nHL : H L = none := by
      cases e : H L with
      | none => rfl
      | some o =>
        have := f1 _ _ offL.1 offL.2.1 (sp1 _ _ e)
        rw [nL] at this
        cases this
    generalize upd (upd H1 L (.lst [])) t (.tup [.int lim, .ref L]) = H2 at f2 eL2 d2 ⊢
    have hx2 := Dp.kt (f2.ktw hD) hx (only_forD _ _)
    obtain ⟨a, b, xs, rfl, ha, hb, hA⟩ := Dp.forI hx2
    -- the vertices
    refine ⟨.ref d, rfl, .ref a, rfl, a, _, 0, .int (m : Int), rfl, rfl, ha, atI_nat (j := 0) rfl, (m : Int), rfl, RgOk.of_le (by omega) (by omega) (by omega) (by omega), fun z nz => ?_⟩
    rw [rgVrng]
    have sz := same_upd (o := .lst ((rng m).map V.int)) nz
    refine ⟨d, r, c, z, _, rng m, rfl, d2.same sz, by omega, SqL.of upd_same, by rw [rng_length]; omega, fun H3 D nm pm f3 d3 nD eD => ?_⟩
    rw [rng_length] at d3
    have offD := (d2.same sz).off nD
    have f3' : Fm d r H H3 := (f2.trans (Same.fm sz)).trans f3
    have eL3 := f3 _ _ offL.1 offL.2.1 (sz _ _ eL2)
    have nLD : L ≠ D := ne_of_none (sz _ _ eL2) nD
    have lnm : nm.length = m := by rw [pm.length_eq, rng_length]
    refine ⟨D, rfl, ⟨_, SqL.of eD⟩, for_list (K := K) (a := D) (xs := nm.map V.int) (fun i σ H' => ∃ (y4 y5 : Option V) (S : List Int), σ = [some (.ref d), some (.ref a), some (.int lim), some (.ref L), y4, y5, none] ∧
      Fm d r H H' ∧ Dw H' d r c (n + 14) ∧ H' D = some (.lst (nm.map V.int)) ∧ H' L = some (.lst (S.map V.int)) ∧ S.Sublist (nm.take i) ∧ (∀ u ∈ S, ∀ z ∈ S, ordP u z ∉ es)) ?_ ?_ ?_ ?_⟩
    · exact ⟨none, none, [], rfl, f3', d3.le (by omega), eD, eL3, List.nil_sublist _, (fun _ z => nomatch z)⟩
    · rintro i σ H' _ ⟨y4, y5, S, rfl, _, _, e, _⟩
      exact SqL.of e
    · rintro i v σ H4 hv ⟨y4, y5, S, rfl, f4, d4, eD4, eL4, sub, free⟩
      rw [List.getElem?_map] at hv
      obtain ⟨v, hv', rfl⟩ := Option.map_eq_some_iff.mp hv
      obtain ⟨hi, _⟩ := List.getElem?_eq_some_iff.mp hv'
      have inS : ∀ u ∈ S, 0 ≤ u ∧ u < m := fun u hu => mem_rng.mp (pm.mem_iff.mp (List.mem_of_mem_take (sub.subset hu)))
      have lS : S.length ≤ i := by
        have := sub.length_le
        rw [List.length_take] at this
        omega
      have hx4 := Dp.kt (f4.ktw hD) hx (only_forD _ _)
      refine ⟨.ref a, rfl, .int v, rfl, .ref a, m, es, v, rfl, by omega, isf, hx4, fun H5 N s5 nN eN => ?_⟩
      dsimp only [gName]
      refine ifJ (R := fun b H8 => Same H5 H8 ∧ (b = true → (nearL m es v).filter (fun o => decide (o ∈ S)) = [])) (fun R hR => ?_) (fun H8 hR => ?_) (fun H8 hR => ?_)
      · refine ⟨.ref L, rfl, L, _, rfl, .inl (SqL.of (s5 _ _ eL4)), .int lim, rfl, _, _, rfl, rfl, _, rfl, ite2 (fun h0 => ?_) (fun h0 => ?_)⟩
        · refine ⟨.ref N, rfl, N, rfl, ⟨_, SqL.of eN⟩, fun C nC => ?_⟩
          have nl12 := nearL_len m es v
          refine lc_listI (K := K) (fun o => decide (o ∈ S)) .int nC (SqL.of eN) (fun _ => rfl) (fun o _ H' R' s1 hR' => ?_) (fun o _ _ H' R' s1 hR' => ?_) only_int (by omega) (fun H6 ys s6 eC dy => ?_)
          · refine ⟨.int o, rfl, .ref L, rfl, L, S.map V.int, rfl, .inl (SqL.of (s1 _ _ (s5 _ _ eL4))), rfl, flat_ints S, _, rfl, ?_⟩
            have h2 := hR' H' (Same.refl _)
            rw [← inV_ints] at h2
            exact h2
          · exact ⟨.int o, rfl, hR' H' _ (Same.refl _) (.int o)⟩
          · rw [lst_ints dy] at eC
            refine ⟨Nat.zero_le _, fun B nB => ?_⟩
            have s7 := same_upd (o := .lst []) nB
            refine ⟨_, .list [], .lst (SqL.of (s7 _ _ eC)) (DpAll.of_ints _), .lst (SqL.of upd_same) .nil, shaped_ints _, shaped_ints [], _, rfl, ?_⟩
            rw [eqv_nil]
            exact hR _ _ ⟨s6.trans s7, fun hc => of_decide_eq_true hc⟩
        · exact hR _ _ ⟨Same.refl _, fun z => nomatch z⟩
      · obtain ⟨s8, nb⟩ := hR
        have s48 := s5.trans s8
        have f8 := f4.trans (Same.fm s48)
        have d8 := d4.same s48
        have eL8 := s48 _ _ eL4
        refine ⟨.ref L, rfl, .inl ⟨rfl, _, SqL.of eL8⟩, .int v, rfl, L, _, _, rfl, rfl, eL8, ?_, _, _, S ++ [v], rfl, f8.put1 nHL, d8.put offL, by rw [upd_ne nLD.symm]; exact s48 _ _ eD4, ?_, ?_, set_grow isf free inS (nb rfl)⟩
        · rw [List.length_map]
          exact small1000 (by omega)
        · rw [upd_same, List.map_append]
          rfl
        · rw [List.take_add_one, hv']
          exact sub.append (List.Sublist.refl _)
      · obtain ⟨s8, nb⟩ := hR
        have s48 := s5.trans s8
        refine ⟨_, _, S, rfl, f4.trans (Same.fm s48), d4.same s48, s48 _ _ eD4, s48 _ _ eL4, ?_, free⟩
        rw [List.take_add_one, hv']
        exact sub.trans (List.sublist_append_left _ _)
    · rintro σ H4 ⟨y4, y5, S, rfl, f4, d4, eD4, eL4, sub, free⟩
      refine ⟨.ref L, rfl, sortInts (SqL.of eL4) fun p np => ?_⟩
      have t1 := same_upd (o := .lst ((srtI S).map V.int)) np
      refine ⟨p, _, rfl, .inl ⟨SqL.of upd_same, fun t nt => ?_⟩⟩
      have t2 := same_upd (o := .tup ((srtI S).map V.int)) nt
      have t12 := t1.trans t2
      have sub' : S.Sublist nm := sub.trans (List.take_sublist _ _)
      have nd : S.Nodup := sub'.nodup (pm.nodup_iff.mpr (rng_asc m).nodup)
      have offt := (d4.same t1).off nt
      have nHt : H t = none := by
        cases e : H t with
        | none => rfl
        | some o =>
          have := t1 _ _ (f4 _ _ offt.1 offt.2.1 e)
          rw [nt] at this
          cases this
      exact q _ _ (srtI S) (f4.trans (Same.fm t12)) ((d4.same t12).le (by omega)) ⟨srtI_asc nd, fun v hv => mem_rng.mp (pm.mem_iff.mp (sub'.subset (mem_srtI.mp hv))), fun u hu z hz => free u (mem_srtI.mp hu) z (mem_srtI.mp hz)⟩ nHt upd_same
def spLOne : Sp := fun vs H Q _ => ∃ (d r c a : Addr) (n : Nat) (ys : List V), vs = [.ref d, .ref a] ∧ Dw H d r c n ∧ n < 900000 ∧ H a = some (.tup ys) ∧ (a ≠ d ∧ a ≠ r ∧ a ≠ c) ∧ 0 < ys.length ∧ ys.length ≤ 5000 ∧
  ∀ (H' : Hp) (y : V), Fm d r H H' → Dw H' d r c (n + 1) → y ∈ ys → Q y H'
theorem ok_LOne {f : Addr} {fd : FuncData} (F : Fun K "_law_one" "_law_one" sLOne f fd) (m_len : mg "len" = none) (oLNext : Own P w K mg base "_law_next" 1 ["_law_state", "_law_many"] spLNext) :
    FnOk P w K mg base CX0 2 f fd ["_law_state", "_law_items"] spLOne := by
  refine F.ok scLOne (fun vs H Q E h => ?_) (fun cdv A outer s H vs Q E hr h => ?_)
  · obtain ⟨d, r, c, a, n, ys, rfl, _⟩ := h
    rfl
  · obtain ⟨d, r, c, a, n, ys, rfl, hD, hn, ha, off, l0, l5, q⟩ := h
    refine ⟨_, (pss_one (ps_ret (pe_ix (ixTK K) (pv 1) (pe_own oLNext (hr.mono (by decide)) (by rfl) (pa_cons (pv 0) (pa_cons (pe_callB (lenK K) (by rfl) m_len (by decide +kernel) (pa_cons (pv 1) pa_nil)) pa_nil))) (fun _ _ => rfl)))), ?_⟩
    refine ⟨.ref a, rfl, .ref d, rfl, .ref a, rfl, a, ys, rfl, .inr (SqT.of ha), d, r, c, n, _, rfl, by omega, by omega, hD, by omega, fun H1 x x0 x1 f1 d1 => ?_⟩
    have hx : x.toNat < ys.length := by omega
    exact ⟨a, _, _, ys[x.toNat], rfl, rfl, SqT.of (f1 _ _ off.1 off.2.1 ha), at_of (j := x.toNat) (by omega) (List.getElem?_eq_getElem hx), q _ _ f1 d1 (List.getElem_mem hx)⟩
end
end TL
namespace TL
open PySem PySem.Spec PyProof.Rows L2
section
variable {P : Program} {w : World} {K : PySem.W.Frag} {mg : Str → Option Value} {base : Heap}
/-! ### the program: slides followed -/
def spIsPair (K : PySem.W.Frag) : Sp := fun vs H Q _ => ∃ (z : V) (p : Int × Int), vs = [z] ∧ Dp K H z (prD p) ∧ Q (.bl true) H
theorem ok_IsPair {f : Addr} {fd : FuncData} {k : Nat} (F : Fun K "is_pair" "is_pair" sIsPair f fd) (m_isinstance : mg "isinstance" = none) (m_tuple : mg "tuple" = none) (m_len : mg "len" = none) :
    FnOk P w K mg base CX0 (k + 1) f fd ["value"] (spIsPair K) := by
  refine F.ok scIsPair (fun vs H Q E h => ?_) (fun cdv A outer s H vs Q E hr h => ?_)
  · obtain ⟨z, p, rfl, _⟩ := h
    rfl
  · obtain ⟨z, p, rfl, hz, q⟩ := h
    obtain ⟨a, rfl, ha⟩ := Dp.prI hz
    refine ⟨_, (pss_one (ps_ret (pe_and (pe_callB (isiK K) (by rfl) m_isinstance (by decide +kernel) (pa_cons (pv 0) (pa_cons (pe_bltn (v := .ty "tuple") (by rfl) m_tuple (by decide +kernel) rfl) pa_nil))) (pe_one (pe_cmpR op_eq (pe_callB (lenK K) (by rfl) m_len (by decide +kernel) (pa_cons (pv 0) pa_nil)) pe_int (nomark _)))))), ?_⟩
    refine ⟨.ref a, rfl, _, _, _, _, true, rfl, .ty "tuple", ty_tup ha, kit_ty (by decide +kernel), true, rfl, iteT ?_⟩
    exact ⟨.ref a, rfl, a, _, rfl, .inr ha, rfl, q⟩
def spIsPossible (K : PySem.W.Frag) : Sp := fun vs H Q _ => ∃ (x y z : V) (m : Nat) (es : List (Int × Int)) (S : List Int) (p : Int × Int), vs = [x, y, z] ∧ m ≤ 12 ∧ IsFor m es ∧ Dp K H x (forD m es) ∧ Dp K H y (intsD S) ∧ IsSet m es S ∧ Dp K H z (prD p) ∧
  ∀ H', Same H H' → Q (.bl (decide (p ∈ slidesP m es S))) H'
theorem ok_IsPossible {f : Addr} {fd : FuncData} (F : Fun K "is_possible" "is_possible" sIsPossible f fd) (oIsPair : Own P w K mg base "is_pair" 1 ["value"] (spIsPair K)) (oIsNumber : Own P w K mg base "is_number" 1 ["value"] spIsNumber)
    (oPossibleSlides : Own P w K mg base "possible_slides" 3 ["forest", "setting"] (spPossibleSlides K)) :
    FnOk P w K mg base CX0 4 f fd ["forest", "setting", "value"] (spIsPossible K) := by
  refine F.ok scIsPossible (fun vs H Q E h => ?_) (fun cdv A outer s H vs Q E hr h => ?_)
  · obtain ⟨x, y, z, m, es, S, p, rfl, _⟩ := h
    rfl
  · obtain ⟨x, y, z, m, es, S, p, rfl, hm, isf, hx, hy, iss, hz, q⟩ := h
    obtain ⟨a, rfl, ha⟩ := Dp.prI hz
    refine ⟨_, (pss_cons (ps_if (pt_not (pt_val (pe_own oIsPair (hr.mono (by decide)) (by rfl) (pa_cons (pv 2) pa_nil)))) (pss_one (ps_ret pe_bl)) pss_nil)
    (pss_cons (ps_asg (pv 2) (pgTK K (pgs_cons (pg_name (i := 3) scIsPossible.nd rfl (Or.inl rfl)) (pgs_cons (pg_name (i := 4) scIsPossible.nd rfl (Or.inl rfl)) pgs_nil))))
    (pss_one (ps_ret (pe_and (pe_own oIsNumber (hr.mono (by decide)) (by rfl) (pa_cons (pv 3) pa_nil)) (pe_and (pe_own oIsNumber (hr.mono (by decide)) (by rfl) (pa_cons (pv 4) pa_nil)) (pe_one (pe_cmpR (inDK K hr.units) (pv 2) (pe_own oPossibleSlides (hr.mono (by decide)) (by rfl) (pa_cons (pv 0) (pa_cons (pv 1) pa_nil))) (by rfl))))))))), ?_⟩
    refine ⟨.ref a, rfl, _, p, rfl, hz, true, rfl, iteF ?_⟩
    refine ⟨.ref a, rfl, a, _, rfl, ha, rfl, _, _, rfl, _, _, rfl, rfl, ?_⟩
    refine ⟨.int p.1, rfl, p.1, rfl, true, rfl, iteT ⟨.int p.2, rfl, p.2, rfl, true, rfl, iteT ?_⟩⟩
    refine ⟨.ref a, rfl, x, rfl, y, rfl, x, y, m, es, S, rfl, hm, isf, hx, hy, iss, fun H' r s1 dr => ?_⟩
    refine ⟨prD p, (slidesP m es S).map prD, Dp.same s1 hz, .inr dr, lay_prs _, lay_pr _, dep_pr _, ?_⟩
    have h2 := q H' s1
    rw [← any_pr] at h2
    exact h2
def spFollow (K : PySem.W.Frag) : Sp := fun vs H Q _ => ∃ (x y z : V) (m : Nat) (es : List (Int × Int)) (S T : List Int) (ps : List (Int × Int)), vs = [x, y, z] ∧ m ≤ 12 ∧ IsFor m es ∧ Dp K H x (forD m es) ∧ Dp K H y (intsD S) ∧ IsSet m es S ∧ Dp K H z (prsD ps) ∧
  walk m es S ps = some T ∧ ∀ H' r, Same H H' → IsSet m es T → Dp K H' r (intsD T) → Q r H'
theorem ok_Follow {f : Addr} {fd : FuncData} (F : Fun K "follow" "follow" sFollow f fd) (m_isinstance : mg "isinstance" = none) (m_tuple : mg "tuple" = none) (m_enumerate : mg "enumerate" = none)
    (oIsPossible : Own P w K mg base "is_possible" 4 ["forest", "setting", "value"] (spIsPossible K)) (oSlideLamp : Own P w K mg base "slide_lamp" 3 ["forest", "setting", "u", "v"] (spSlideLamp K)) :
    FnOk P w K mg base CX0 5 f fd ["forest", "setting", "slides"] (spFollow K) := by
  refine F.ok scFollow (fun vs H Q E h => ?_) (fun cdv A outer s H vs Q E hr h => ?_)
  · obtain ⟨x, y, z, m, es, S, T, ps, rfl, _⟩ := h
    rfl
  · obtain ⟨x, y, z, m, es, S, T, ps, rfl, hm, isf, hx, hy, iss, hz, hw, q⟩ := h
    obtain ⟨a, xs, rfl, ha, hA⟩ := Dp.tupI hz
    have xl : xs.length = ps.length := by rw [DpAll.length hA, List.length_map]
    refine ⟨_, (pss_cons (ps_if (pt_not (pt_val (pe_callB (isiK K) (by rfl) m_isinstance (by decide +kernel) (pa_cons (pv 2) (pa_cons (pe_bltn (v := .ty "tuple") (by rfl) m_tuple (by decide +kernel) rfl) pa_nil))))) (pss_one ps_never) pss_nil)
    (pss_cons (ps_set (i := 3) scFollow.nd rfl (.inl rfl) (pv 1))
    (pss_cons (ps_for PassesOwn.never rfl (pi_enumT K (by rfl) m_enumerate (pa_cons (pv 2) pa_nil)) (pgTK K (pgs_cons (pg_name (i := 4) scFollow.nd rfl (Or.inl rfl)) (pgs_cons (pg_name (i := 5) scFollow.nd rfl (Or.inl rfl)) pgs_nil)))
    (pss_cons (ps_if (pt_not (pt_val (pe_own oIsPossible (hr.mono (by decide)) (by rfl) (pa_cons (pv 0) (pa_cons (pv 3) (pa_cons (pv 5) pa_nil)))))) (pss_one ps_never) pss_nil)
    (pss_cons (ps_asg (pv 5) (pgTK K (pgs_cons (pg_name (i := 6) scFollow.nd rfl (Or.inl rfl)) (pgs_cons (pg_name (i := 7) scFollow.nd rfl (Or.inl rfl)) pgs_nil))))
    (pss_one (ps_set (i := 3) scFollow.nd rfl (.inl rfl) (pe_own oSlideLamp (hr.mono (by decide)) (by rfl) (pa_cons (pv 0) (pa_cons (pv 3) (pa_cons (pv 6) (pa_cons (pv 7) pa_nil))))))))))
    (pss_one (ps_ret (pv 3)))))), ?_⟩
    refine ⟨.ref a, rfl, _, _, _, _, true, rfl, .ty "tuple", ty_tup ha, kit_ty (by decide +kernel), true, rfl, iteF ?_⟩
    refine ⟨y, rfl, .ref a, rfl, a, xs, rfl, ha, for_enumT (K := K) (a := a) (xs := xs) (fun i σ H' => ∃ (y4 y5 y6 y7 : Option V) (r : V) (R : List Int), σ = [some x, some y, some (.ref a), some r, y4, y5, y6, y7] ∧ Same H H' ∧
      Dp K H' r (intsD R) ∧ IsSet m es R ∧ walk m es R (ps.drop i) = some T) ?_ ?_ ?_ ?_⟩
    · exact ⟨none, none, none, none, y, S, rfl, Same.refl _, hy, iss, hw⟩
    · rintro i σ H' ⟨y4, y5, y6, y7, r, R, rfl, s1, _⟩
      exact Same.tup s1 ha
    · rintro i v t σ H1 hv nt ⟨y4, y5, y6, y7, r, R, rfl, s1, dr, isr, hwr⟩
      have st := same_upd (o := .tup [.int (i : Nat), v]) nt
      obtain ⟨z, hz', dz⟩ := DpAll.get hA hv
      rw [List.getElem?_map] at hz'
      obtain ⟨p, hp, rfl⟩ := Option.map_eq_some_iff.mp hz'
      obtain ⟨hi, ep⟩ := List.getElem?_eq_some_iff.mp hp
      rw [List.drop_eq_getElem_cons hi, ep] at hwr
      obtain ⟨pin, hw2⟩ := walk_cons hwr
      have s2 := s1.trans st
      have dv := Dp.same s2 dz
      have hx2 := Dp.same s2 hx
      have dr2 := Dp.same st dr
      refine ⟨t, _, rfl, SqT.of upd_same, rfl, _, _, rfl, _, _, rfl, rfl, ?_⟩
      refine ⟨x, rfl, r, rfl, v, rfl, x, r, v, m, es, R, p, rfl, hm, isf, hx2, dr2, isr, dv, fun H2 s3 => ⟨true, ?_, iteF ?_⟩⟩
      · rw [decide_eq_true pin]
      obtain ⟨b, rfl, hb⟩ := Dp.prI (Dp.same s3 dv)
      refine ⟨.ref b, rfl, b, _, rfl, hb, rfl, _, _, rfl, _, _, rfl, rfl, ?_⟩
      obtain ⟨hu, hv2, ho⟩ := mem_slidesP.mp (show (p.1, p.2) ∈ slidesP m es R from pin)
      refine ⟨x, rfl, r, rfl, .int p.1, rfl, .int p.2, rfl, x, r, m, es, R, p.1, p.2, rfl, hm, isf, Dp.same s3 hx2, Dp.same s3 dr2, isr, hu, hv2, ho, fun H3 t3 s4 et3 => ?_⟩
      exact ⟨_, _, _, _, .ref t3, after R p.1 p.2, rfl, (s2.trans s3).trans s4, Dp.ints (SqT.of et3), IsSet.slide isf isr pin, hw2⟩
    · rintro σ H1 ⟨y4, y5, y6, y7, r, R, rfl, s1, dr, isr, hwr⟩
      rw [xl, List.drop_length] at hwr
      cases hwr
      exact ⟨r, rfl, q H1 r s1 isr dr⟩
end
end TL
namespace TL
open PySem PySem.Spec PyProof.Rows L2
section
variable {P : Program} {w : World} {K : PySem.W.Frag} {mg : Str → Option Value} {base : Heap}
/-! ### side by side -/
def spSideBySide (K : PySem.W.Frag) : Sp := fun vs H Q _ => ∃ (x y : V) (m n : Nat) (es fs : List (Int × Int)), vs = [x, y] ∧ m + n ≤ 12 ∧ IsFor m es ∧ IsFor n fs ∧ Dp K H x (forD m es) ∧ Dp K H y (forD n fs) ∧
  ∀ (H' : Hp) (z : V), Same H H' → Dp K H' z (forD (m + n) (es ++ fs.map (shf m))) → Q z H'
theorem ok_SideBySide {t0 : Tok} {f : Addr} {fd : FuncData} {k : Nat} (F : Fun K "side_by_side" "side_by_side" sSideBySide f fd) (m_tuple : mg "tuple" = none) (m_MAX_VERTICES : mg "MAX_VERTICES" = some (.int 12 t0)) :
    FnOk P w K mg base CX0 (k + 1) f fd ["first", "second"] (spSideBySide K) := by
  refine F.ok scSideBySide (fun vs H Q E h => ?_) (fun cdv A outer s H vs Q E hr h => ?_)
  · obtain ⟨x, y, m, n, es, fs, rfl, _⟩ := h
    rfl
  · obtain ⟨x, y, m, n, es, fs, rfl, hmn, f1, f2, hx, hy, q⟩ := h
    obtain ⟨a, b, xs, rfl, ha, hb, hA⟩ := Dp.forI hx
    obtain ⟨a', b', xs', rfl, ha', hb', hA'⟩ := Dp.forI hy
    have c1 := f1.count
    have c2 := f2.count
    refine ⟨_, (pss_cons (ps_asg (pv 0) (pgTK K (pgs_cons (pg_name (i := 2) scSideBySide.nd rfl (Or.inr rfl)) (pgs_cons (pg_name (i := 3) scSideBySide.nd rfl (Or.inl rfl)) pgs_nil))))
    (pss_cons (ps_asg (pv 1) (pgTK K (pgs_cons (pg_name (i := 4) scSideBySide.nd rfl (Or.inl rfl)) (pgs_cons (pg_name (i := 5) scSideBySide.nd rfl (Or.inl rfl)) pgs_nil))))
    (pss_cons (ps_if (pt_cmpR op_gt (pe_op op_add (pv 2) (pv 4)) (pe_glob (v := V.int 12) (by rfl) m_MAX_VERTICES ⟨_, rfl⟩) (nomark _)) (pss_one ps_never) pss_nil)
    (pss_one (ps_ret (pe_tup (pa_cons (pe_op op_add (pv 2) (pv 4)) (pa_cons (pe_op (catAK K) (pv 3) (pe_callTy (tupleK K) (by rfl) m_tuple (by decide +kernel) (pa_cons (pe_lc (own := [("a", 6), ("b", 7)]) (g := (gTup K 2 (gCons (gName 6) (gCons (gName 7) gNil)))) (tt := tYes) rfl scSideBySide.nd (piTK K (pv 5))
      (blkOk_by (own := [("a", 6), ("b", 7)]) (N := nSideBySide) (sc := (defScope sSideBySide)) (by decide +kernel))
      (fun _ _ _ _ _ => (pgTK K (pgs_cons (pg_name (i := 6) scSideBySide.nd rfl (Or.inl rfl)) (pgs_cons (pg_name (i := 7) scSideBySide.nd rfl (Or.inl rfl)) pgs_nil)))) (fun _ _ _ _ _ => pts_nil)
      (fun _ _ _ _ _ => (pe_tup (pa_cons (pe_op op_add (pv 6) (pv 2)) (pa_cons (pe_op op_add (pv 7) (pv 2)) pa_nil))))) pa_nil))) pa_nil)))))))), ?_⟩
    refine ⟨.ref a, rfl, a, _, rfl, ha, rfl, _, _, rfl, _, _, rfl, rfl, ?_⟩
    refine ⟨.ref a', rfl, a', _, rfl, ha', rfl, _, _, rfl, _, _, rfl, rfl, ?_⟩
    refine ⟨.int (m : Int), rfl, .int (n : Int), rfl, _, _, rfl, rfl, _, _, rfl, rfl, _, rfl, ?_⟩
    rw [decide_eq_false (show ¬ (12 : Int) < (m : Int) + (n : Int) by omega)]
    refine iteF ?_
    refine ⟨.int (m : Int), rfl, .int (n : Int), rfl, _, _, rfl, rfl, .ref b, rfl, .ref b', rfl, b', rfl, ⟨_, hb'⟩, fun D nD => ?_⟩
    refine lc_tupP (K := K) (fun _ => true) (fun p => prD (shf m p)) nD hb' hA' (fun _ _ => rfl) (fun o _ H' R s1 hR => hR H' (Same.refl _)) (fun o _ _ H' R s1 hR => ?_) (fun o => only_pr _) (by omega) (fun H2 ys s2 eD dy => ?_)
    · refine ⟨.int o.1, rfl, .int (m : Int), rfl, _, _, rfl, rfl, .int o.2, rfl, .int (m : Int), rfl, _, _, rfl, rfl, by show 2 ≤ sizeLine; decide, fun t nt => ?_⟩
      exact hR _ _ (same_upd nt) (Dp.pr (SqT.of upd_same))
    rw [filt_true] at dy
    refine ⟨D, ys, rfl, .inl ⟨SqL.of eD, fun t nt => ?_⟩⟩
    have st := same_upd (o := .tup ys) nt
    have dt : Dp K (upd H2 t (.tup ys)) (.ref t) (.tuple (fs.map fun p => prD (shf m p))) := .tup (SqT.of upd_same) (DpAll.same st dy)
    refine catD (Dp.same (s2.trans st) (.tup hb hA)) dt (by rw [List.length_map, List.length_map]; omega) fun H3 r s3 dr => ?_
    refine ⟨by show 2 ≤ sizeLine; decide, fun z nz => ?_⟩
    have sz := same_upd (o := .tup [.int ((m : Int) + (n : Int)), r]) nz
    refine q _ _ (((s2.trans st).trans s3).trans sz) ?_
    refine .tup (SqT.of upd_same) (.cons ?_ (.cons (Dp.same sz ?_) .nil))
    · rw [show ((m + n : Nat) : Int) = (m : Int) + (n : Int) by omega]
      exact .int _
    · unfold prsD
      rw [List.map_append, List.map_map]
      exact dr
end
end TL
namespace TL
open PySem PySem.Spec PyProof.Rows L2
section
variable {P : Program} {w : World} {K : PySem.W.Frag} {mg : Str → Option Value} {base : Heap}
/-! ### the law: settings of both -/
def Tkd (H : Hp) (x : V) (A : List Int) : Prop := ∃ a, x = .ref a ∧ H a = some (.tup (A.map V.int))
def spLBoth (K : PySem.W.Frag) : Sp := fun vs H Q _ => ∃ (m : Nat) (x y : V) (A B : List Int), vs = [.int m, x, y] ∧ m ≤ 12 ∧ Dp K H x (intsD A) ∧ Dp K H y (intsD B) ∧ A.length ≤ 12 ∧ B.length ≤ 12 ∧ (∀ b ∈ B, 0 ≤ b ∧ b ≤ 12) ∧
  ∀ (H' : Hp) (z : V), Same H H' → Dp K H' z (intsD (bothL m A B)) → (Tkd H x A → Tkd H' z (bothL m A B)) → Q z H'
theorem ok_LBoth {f : Addr} {fd : FuncData} {k : Nat} (F : Fun K "_law_both" "_law_both" sLBoth f fd) (m_tuple : mg "tuple" = none) :
    FnOk P w K mg base CX0 (k + 1) f fd ["_law_n", "_law_one_here", "_law_other"] (spLBoth K) := by
  refine F.ok scLBoth (fun vs H Q E h => ?_) (fun cdv A outer s H vs Q E hr h => ?_)
  · obtain ⟨m, x, y, A, B, rfl, _⟩ := h
    rfl
  · obtain ⟨m, x, y, C, B, rfl, hm, hx, hy, lA, lB, rB, q⟩ := h
    obtain ⟨b, rfl, hb⟩ := Dp.intsI hy
    obtain ⟨a, rfl, ha⟩ := Dp.intsI hx
    refine ⟨_, (pss_one (ps_ret (pe_op (catAK K) (pv 1) (pe_callTy (tupleK K) (by rfl) m_tuple (by decide +kernel) (pa_cons (pe_lc (own := [("_law_lamp", 3)]) (g := (gName 3)) (tt := tYes) rfl scLBoth.nd (piTK K (pv 2))
      (blkOk_by (own := [("_law_lamp", 3)]) (N := nLBoth) (sc := (defScope sLBoth)) (by decide +kernel))
      (fun _ _ _ _ _ => (pg_name (i := 3) scLBoth.nd rfl (Or.inl rfl))) (fun _ _ _ _ _ => pts_nil)
      (fun _ _ _ _ _ => (pe_op op_add (pv 0) (pv 3)))) pa_nil))))), ?_⟩
    refine ⟨.ref a, rfl, .ref b, rfl, b, rfl, ⟨_, hb⟩, fun D nD => ?_⟩
    refine lc_tupI (K := K) (fun _ => true) (fun o => .int (o + (m : Int))) nD hb (fun _ => rfl) (fun o _ H' R s1 hR => hR H' (Same.refl _)) (fun o ho _ H' R s1 hR => ?_) (fun o => only_int _) (by omega) (fun H3 ys s3 eD dy => ?_)
    · have e : V.int ((m : Int) + o) = V.int (o + (m : Int)) := by rw [Int.add_comm]
      refine ⟨.int m, rfl, .int o, rfl, _, _, rfl, rfl, ?_⟩
      show R (V.int ((m : Int) + o)) H'
      rw [e]
      exact hR H' _ (Same.refl _) (.int _)
    rw [filt_true] at dy
    have e : ys = (B.map (· + (m : Int))).map V.int := DpAll.ints (by rw [List.map_map]; exact dy)
    subst e
    refine ⟨D, _, rfl, .inl ⟨SqL.of eD, fun t nt => ?_⟩⟩
    have st := same_upd (o := .tup ((B.map (· + (m : Int))).map V.int)) nt
    have et := same_at (o := .tup ((B.map (· + (m : Int))).map V.int)) nt
    have s4 := s3.trans st
    generalize upd H3 t _ = H4 at et s4 ⊢
    refine ⟨a, t, C.map V.int, (B.map (· + (m : Int))).map V.int, rfl, rfl, Same.tup s4 ha, SqT.of et, Nat.le_of_lt (small1000 (by rw [List.length_map, List.length_map, List.length_map]; omega)), fun e => ?_, fun _ e => ?_, fun _ _ p np => ?_⟩
    · have eC : C = [] := List.map_eq_nil_iff.mp e
      subst eC
      exact q _ _ s4 (Dp.ints (SqT.of et)) fun _ => ⟨t, rfl, et⟩
    · have eB : B = [] := List.map_eq_nil_iff.mp (List.map_eq_nil_iff.mp e)
      subst eB
      have e2 : bothL m C [] = C := List.append_nil C
      refine q _ _ s4 (by rw [e2]; exact Dp.ints (Same.tup s4 ha)) fun ⟨a', ea, ha'⟩ => ?_
      cases ea
      exact ⟨a, rfl, by rw [e2]; exact s4 _ _ ha'⟩
    · have sp := same_upd (o := .tup (C.map V.int ++ (B.map (· + (m : Int))).map V.int)) np
      have ep : upd H4 p (.tup (C.map V.int ++ (B.map (· + (m : Int))).map V.int)) p = some (.tup ((bothL m C B).map V.int)) := by
        unfold bothL
        rw [upd_same, List.map_append]
      exact q _ _ (s4.trans sp) (Dp.ints (SqT.of ep)) fun _ => ⟨p, rfl, ep⟩
theorem nrm_both {m n : Nat} {es fs : List (Int × Int)} {A B N1 N2 : List Int} (f : IsFor m es) (g : IsFor n fs) (a : IsSet m es A) (b : IsSet n fs B) (h1 : IsNrm m es A N1) (h2 : IsNrm n fs B N2) : IsNrm (m + n) (besE m es fs) (bothL m A B) (bothL m N1 N2) := by
  obtain ⟨G1, l1, gs1, gr1, lab1, grp1, rfl⟩ := h1
  obtain ⟨G2, l2, gs2, gr2, lab2, grp2, rfl⟩ := h2
  have rG1 : ∀ x ∈ G1, 0 ≤ x ∧ x < (m : Int) := fun x hx => a.rng x (gr1.sub x hx)
  have rG2 : ∀ x ∈ G2, 0 ≤ x ∧ x < (n : Int) := fun x hx => b.rng x (gr2.sub x hx)
  have r1 : ∀ x ∈ (rng m).filter (ap m es G1), 0 ≤ x ∧ x < (m : Int) := fun x hx => mem_rng.mp (List.mem_filter.mp hx).1
  have r2 : ∀ x ∈ (rng n).filter (ap n fs G2), 0 ≤ x ∧ x < (n : Int) := fun x hx => mem_rng.mp (List.mem_filter.mp hx).1
  have a1 : Asc ((rng m).filter (ap m es G1)) := (rng_asc m).filter _
  have a2 : Asc ((rng n).filter (ap n fs G2)) := (rng_asc n).filter _
  have ew : (rng (m + n)).filter (ap (m + n) (besE m es fs) (bothL m G1 G2)) = bothL m ((rng m).filter (ap m es G1)) ((rng n).filter (ap n fs G2)) := by
    refine asc_ext ((rng_asc _).filter _) (both_asc a1 a2 r1 r2) fun x => ?_
    refine Iff.trans ?_ mem_both.symm
    rw [List.mem_filter, mem_rng, ap_iff, List.mem_filter, mem_rng, ap_iff, List.mem_filter, mem_rng, ap_iff]
    constructor
    · rintro ⟨hx, k1, k2⟩
      by_cases hl : x < (m : Int)
      · refine .inl ⟨⟨hx.1, hl⟩, fun z => k1 ((both_left rG2 hl).mpr z), fun o ho z => ?_⟩
        rw [near_left f g hl] at k2
        exact k2 o ho ((both_left rG2 (mem_nearL.mp ho).1.2).mpr z)
      · have e : x = (x - m) + m := by omega
        refine .inr ⟨by omega, fun z => k1 (mem_both.mpr (.inr z)), fun o ho z => ?_⟩
        rw [e, near_right f g (by omega)] at k2
        exact k2 (o + m) (List.mem_map.mpr ⟨o, ho, rfl⟩) ((both_right rG1 (mem_nearL.mp ho).1.1).mpr z)
    · rintro (⟨hx, k1, k2⟩ | ⟨hx, k1, k2⟩)
      · refine ⟨by omega, fun z => k1 ((both_left rG2 hx.2).mp z), fun o ho z => ?_⟩
        rw [near_left f g hx.2] at ho
        exact k2 o ho ((both_left rG2 (mem_nearL.mp ho).1.2).mp z)
      · have e : x = (x - m) + m := by omega
        refine ⟨by omega, fun z => k1 ?_, fun o ho z => ?_⟩
        · rw [e] at z
          exact (both_right rG1 hx.1).mp z
        · rw [e, near_right f g hx.1] at ho
          obtain ⟨y, hy, rfl⟩ := List.mem_map.mp ho
          exact k2 y hy ((both_right rG1 (mem_nearL.mp hy).1.1).mp z)
  have lab := lab_both f g r1 r2 lab1 lab2
  have grp := grp_both r1 r2 grp1 grp2
  refine ⟨bothL m G1 G2, labB m l1 l2, grpB m gs1 gs2, gr_both f g a b gr1 gr2, by rw [ew]; exact lab, by rw [ew]; exact grp, ?_⟩
  have in1 : ∀ q ∈ gs1, ∀ x ∈ q.2, 0 ≤ x ∧ x < (m : Int) := fun q hq x hx => by
    rw [(grp1.is q hq).1] at hx
    exact r1 x (List.mem_filter.mp hx).1
  have in2 : ∀ q ∈ gs2, ∀ x ∈ q.2, 0 ≤ x ∧ x < (n : Int) := fun q hq x hx => by
    rw [(grp2.is q hq).1] at hx
    exact r2 x (List.mem_filter.mp hx).1
  have eF : (grpB m gs1 gs2).flatMap (fun q => normOf (m + n) (besE m es fs) (bothL m A B) q.2) = (gs1.flatMap fun q => normOf m es A q.2) ++ (gs2.flatMap fun q => normOf n fs B q.2).map (· + (m : Int)) := by
    unfold grpB
    rw [List.flatMap_append, List.flatMap_map, List.flatMap_map, List.map_flatMap]
    congr 1
    · exact flat_congr fun q hq => normOf_left f g (fun x hx => (b.rng x hx).1) fun x hx => (in1 q hq x hx).2
    · exact flat_congr fun q hq => normOf_right f g (fun x hx => (a.rng x hx).2) fun x hx => (in2 q hq x hx).1
  have p1 := norm_set (apt_of G1) f a gr1 lab1 grp1
  have p2 := norm_set (apt_of G2) g b gr2 lab2 grp2
  have s1 := (p1.both f a).1
  have s2 := (p2.both g b).1
  rw [← srt_both (fun x hx => (s1.rng x (mem_srtI.mpr hx)).2) (fun x hx => (s2.rng x (mem_srtI.mpr hx)).1)]
  refine srtI_congr ?_
  rw [eF]
  unfold bothL
  rw [List.map_append, List.append_assoc, List.append_assoc]
  refine List.Perm.append_left G1 ?_
  rw [← List.append_assoc, ← List.append_assoc]
  exact List.Perm.append_right _ List.perm_append_comm
theorem fun_ne {x q x' q' : Str} {st st' : Stmt} {f f' : Addr} {fd fd' : FuncData} (F : Fun K x q st f fd) (G : Fun K x' q' st' f' fd') (h : x ≠ x') : f ≠ f' := fun e => by
  obtain ⟨oc, od, kV, doc, pm, an, cdv, ct, osl, rfl, lk, _⟩ := F.ex
  obtain ⟨oc', od', kV', doc', pm', an', cdv', ct', osl', rfl, lk', _⟩ := G.ex
  rw [e, lk'] at lk
  injection lk with lk
  injection lk with _ _ lk
  injection lk with lk
  exact h (congrArg (·.name) lk).symm
end
end TL
namespace TL
open PySem PySem.Spec PyProof.Rows L2
section
variable {P : Program} {w : World} {K : PySem.W.Frag} {mg : Str → Option Value} {base : Heap}
/-! ### the law: two forests side by side -/
theorem eqv_rows (A B : List (List Int)) : PyData.eqv (.list (A.map intsD)) (.list (B.map intsD)) = decide (A = B) := by
  have key : ∀ A B : List (List Int), PyData.eqvAll (A.map intsD) (B.map intsD) = decide (A = B) := by
    intro A
    induction A with
    | nil => intro B; cases B <;> simp [PyData.eqvAll]
    | cons a A ih =>
      intro B
      cases B with
      | nil => simp [PyData.eqvAll]
      | cons b B =>
        rw [List.map_cons, List.map_cons]
        simp only [PyData.eqvAll, eqv_intsD, ih]
        by_cases h1 : a = b
        · by_cases h2 : A = B
          · subst h1 h2; simp
          · simp [h1, h2]
        · simp [h1]
  simp only [PyData.eqv, key]
theorem Dst.small {m : Nat} {es : List (Int × Int)} {S T : List Int} {n : Nat} {L : List (List Int)} (h : Dst m es S n T) (rc : ∀ r, Rch m es S r → r ∈ L) : n ≤ L.length := by
  obtain ⟨l, h1, h2, h3⟩ := h.chain
  have := h2.length_le_of_subset (l₂ := L) fun r hr => by
    obtain ⟨j, _, hj⟩ := h3 r hr
    exact rc r hj.1.rch
  omega
theorem dwOff {H : Hp} {d r c t : Addr} {n : Nat} {xs : List V} (D : Dw H d r c n) (e : H t = some (.tup xs)) : t ≠ d ∧ t ≠ r ∧ t ≠ c := by
  obtain ⟨k, cs, rs, hk, h1, h2, h3, h4⟩ := D.ex
  exact ⟨(fun z => (by rw [z, h1] at e; cases e)), (fun z => (by rw [z, h3] at e; cases e)), (fun z => (by rw [z, h2] at e; cases e))⟩
theorem dwTup {H H' : Hp} {d r c t : Addr} {n : Nat} {xs : List V} (D : Dw H d r c n) (f : Fm d r H H') (e : H t = some (.tup xs)) : H' t = some (.tup xs) := by
  obtain ⟨k, cs, rs, hk, h1, h2, h3, h4⟩ := D.ex
  exact f _ _ (fun z => by rw [z, h1] at e; cases e) (fun z => by rw [z, h3] at e; cases e) e
theorem sm5k {k : Nat} (h : k ≤ 5000) : k ≤ sizeLine := by
  rw [sizeLine_eq]
  omega
def prodL (m : Nat) (X Y : List (List Int)) : List (List Int) := X.flatMap fun a => Y.map fun b => bothL m a b
theorem mem_prod {m : Nat} {X Y : List (List Int)} {W : List Int} : W ∈ prodL m X Y ↔ ∃ a ∈ X, ∃ b ∈ Y, W = bothL m a b := by
  unfold prodL
  rw [List.mem_flatMap]
  constructor
  · rintro ⟨a, ha, h⟩
    obtain ⟨b, hb, e⟩ := List.mem_map.mp h
    exact ⟨a, ha, b, hb, e.symm⟩
  · rintro ⟨a, ha, b, hb, rfl⟩
    exact ⟨a, ha, List.mem_map.mpr ⟨b, hb, rfl⟩⟩
theorem prod_nodup {m n : Nat} {es fs : List (Int × Int)} {X Y : List (List Int)} (nx : X.Nodup) (ny : Y.Nodup) (hX : ∀ a ∈ X, IsSet m es a) (hY : ∀ b ∈ Y, IsSet n fs b) : (prodL m X Y).Nodup := by
  refine List.pairwise_flatMap.mpr ⟨fun a ha => ?_, List.Pairwise.imp_of_mem (fun {a a'} ha ha' ne W hW W' hW' e => ?_) nx⟩
  · refine List.pairwise_map.mpr (List.Pairwise.imp_of_mem (fun {b b'} hb hb' ne e => ?_) ny)
    exact ne (both_inj (hX a ha).rng (hX a ha).rng (hY b hb).rng (hY b' hb').rng (hX a ha).asc (hX a ha).asc (hY b hb).asc (hY b' hb').asc e).2
  · obtain ⟨b, hb, rfl⟩ := List.mem_map.mp hW
    obtain ⟨b', hb', rfl⟩ := List.mem_map.mp hW'
    exact ne (both_inj (hX a ha).rng (hX a' ha').rng (hY b hb).rng (hY b' hb').rng (hX a ha).asc (hX a' ha').asc (hY b hb).asc (hY b' hb').asc e).1
theorem prod_len (m : Nat) (X Y : List (List Int)) : (prodL m X Y).length = X.length * Y.length := by
  unfold prodL
  induction X with
  | nil => simp
  | cons a X ih => rw [List.flatMap_cons, List.length_append, ih, List.length_map, List.length_cons, Nat.add_mul, Nat.one_mul, Nat.add_comm]
theorem onlyRows : ∀ L : List (List Int), onlyAll (L.map intsD) = true
  | [] => by simp [onlyAll]
  | a :: L => by
    simp only [List.map_cons, onlyAll, onlyRows L, Bool.and_true]
    exact only_intsD _
def spLRight (K : PySem.W.Frag) : Sp := fun vs H Q _ => ∃ (d r c : Addr) (k : Nat) (x y : V) (t1 t2 : Addr) (m n : Nat) (es fs : List (Int × Int)) (A B : List Int), vs = [.ref d, x, y, .ref t1, .ref t2] ∧ Dw H d r c k ∧ k < 700000 ∧ m ≤ 6 ∧ n ≤ 5 ∧ IsFor m es ∧ IsFor n fs ∧ Dp K H x (forD m es) ∧ Dp K H y (forD n fs) ∧
  H t1 = some (.tup (A.map V.int)) ∧ H t2 = some (.tup (B.map V.int)) ∧ IsSet m es A ∧ IsSet n fs B ∧ ∀ (H' : Hp), Fm d r H H' → Dw H' d r c (k + 2) → Q (.bl true) H'
theorem ok_LRight {f : Addr} {fd : FuncData} {fG fN : Addr} (F : Fun K "_law_right" "_law_right" sLRight f fd) (m_tuple : mg "tuple" = none) (m_list : mg "list" = none) (m_sorted : mg "sorted" = none) (m_len : mg "len" = none)
    (m_greatest_lock : mg "greatest_lock" = some (.ref fG)) (m_normal_setting : mg "normal_setting" = some (.ref fN)) (ne : fG ≠ fN) (hG : Held P w K mg base 6 fG (spGreatestLock K)) (hN : Held P w K mg base 6 fN (spNormalSetting K))
    (oSideBySide : Own P w K mg base "side_by_side" 1 ["first", "second"] (spSideBySide K)) (oLBoth : Own P w K mg base "_law_both" 1 ["_law_n", "_law_one_here", "_law_other"] (spLBoth K)) (oClassOf : Own P w K mg base "class_of" 5 ["forest", "setting"] (spClassOf K))
    (oLOne : Own P w K mg base "_law_one" 2 ["_law_state", "_law_items"] spLOne) (oStepsBetween : Own P w K mg base "steps_between" 5 ["forest", "first", "second"] (spStepsBetween K)) (oShortestPlan : Own P w K mg base "shortest_plan" 5 ["forest", "first", "second"] (spShortestPlan K))
    (oFollow : Own P w K mg base "follow" 5 ["forest", "setting", "slides"] (spFollow K)) :
    FnOk P w K mg base CX0 7 f fd ["_law_state", "_law_left", "_law_right_here", "_law_one_here", "_law_other"] (spLRight K) := by
  have hA : ∀ f' sp, (fun f' => if f' = fG then some (spGreatestLock K) else if f' = fN then some (spNormalSetting K) else none) f' = some sp → Held P w K mg base 6 f' sp := fun f' sp h => by
    simp only at h
    split at h
    · rename_i e
      cases h
      rw [e]
      exact hG
    · split at h
      · rename_i e
        cases h
        rw [e]
        exact hN
      · cases h
  refine F.ok scLRight (fun vs H Q E h => ?_) (fun cdv A outer s H vs Q E hr h => ?_)
  · obtain ⟨d, r, c, k, x, y, t1, t2, m, n, es, fs, A, B, rfl, _⟩ := h
    rfl
  · obtain ⟨d, r, c, k, x, y, t1, t2, m, n, es, fs, S, B, rfl, hD, hk, hm, hn, isf, isg, hx, hy, ht1, ht2, sA, sB, q⟩ := h
    refine ⟨_, (pss_cons (ps_asg (pe_tup (pa_cons (pe_ix (ixTK K) (pv 1) pe_int (fun _ _ => rfl)) (pa_cons (pe_own oSideBySide (hr.mono (by decide)) (by rfl) (pa_cons (pv 1) (pa_cons (pv 2) pa_nil))) pa_nil))) (pgTK K (pgs_cons (pg_name (i := 5) scLRight.nd rfl (Or.inr rfl)) (pgs_cons (pg_name (i := 6) scLRight.nd rfl (Or.inl rfl)) pgs_nil))))
    (pss_cons (ps_par3 (by rfl) scLRight.nd (i := 7) (j := 8) (l := 9) rfl rfl rfl (by decide) (by decide) (by decide) rfl rfl rfl (pa_cons (pe_own oLBoth (hr.mono (by decide)) (by rfl) (pa_cons (pv 5) (pa_cons (pv 3) (pa_cons (pv 4) pa_nil)))) (pa_cons (pe_own oClassOf (hr.mono (by decide)) (by rfl) (pa_cons (pv 1) (pa_cons (pv 3) pa_nil))) (pa_cons (pe_own oClassOf (hr.mono (by decide)) (by rfl) (pa_cons (pv 2) (pa_cons (pv 4) pa_nil))) pa_nil))) (by rfl))
    (pss_cons (ps_set (i := 10) scLRight.nd rfl (.inl rfl) (pe_lst pa_nil))
    (pss_cons (ps_for PassesOwn.never rfl (piTK K (pv 8)) (pg_name (i := 11) scLRight.nd rfl (Or.inr rfl))
    (pss_one (ps_expr (bmK K PySem.F.plainAttrs_list PySem.F.slot_list_extend PySem.F.type_list_extend mt_extend (pv 10) (pa_cons (pe_lc (own := [("_law_two", 17)]) (g := (gName 17)) (tt := tYes) rfl scLRight.nd (piTK K (pv 9))
      (blkOk_by (own := [("_law_two", 17)]) (N := nLRight) (sc := (defScope sLRight)) (by decide +kernel))
      (fun _ _ _ _ _ => (pg_name (i := 17) scLRight.nd rfl (Or.inl rfl))) (fun _ _ _ _ _ => pts_nil)
      (fun _ _ _ _ _ => (pe_own oLBoth (hr.mono (by decide)) (by rfl) (pa_cons (pv 5) (pa_cons (pv 11) (pa_cons (pv 17) pa_nil)))))) pa_nil)))))
    (pss_cons (ps_if (pt_cmpR (neDK K hr.units) (pe_callTy (listK K) (by rfl) m_list (by decide +kernel) (pa_cons (pe_own oClassOf (hr.mono (by decide)) (by rfl) (pa_cons (pv 6) (pa_cons (pv 7) pa_nil))) pa_nil)) (pe_callB (sortRowsK K hr.units) (by rfl) m_sorted (by decide +kernel) (pa_cons (pv 10) pa_nil)) (nomark _)) (pss_one (ps_ret pe_bl)) pss_nil)
    (pss_cons (ps_for PassesOwn.never rfl (piLK K (pe_lst (pa_cons (pe_glob (v := V.ref fG) (by rfl) m_greatest_lock rfl) (pa_cons (pe_glob (v := V.ref fN) (by rfl) m_normal_setting rfl) pa_nil)))) (pg_name (i := 12) scLRight.nd rfl (Or.inl rfl))
    (pss_one (ps_if (pt_cmpR (neDK K hr.units) (pe_callA (i := 12) hA (hr.mono (by decide)) (by rfl) (.inl rfl) (pa_cons (pv 6) (pa_cons (pv 7) pa_nil))) (pe_own oLBoth (hr.mono (by decide)) (by rfl) (pa_cons (pv 5) (pa_cons (pe_callA (i := 12) hA (hr.mono (by decide)) (by rfl) (.inl rfl) (pa_cons (pv 1) (pa_cons (pv 3) pa_nil))) (pa_cons (pe_callA (i := 12) hA (hr.mono (by decide)) (by rfl) (.inl rfl) (pa_cons (pv 2) (pa_cons (pv 4) pa_nil))) pa_nil)))) (nomark _)) (pss_one (ps_ret pe_bl)) pss_nil)))
    (pss_cons (ps_set (i := 13) scLRight.nd rfl (.inl rfl) (pe_lst (pa_cons (pe_own oLOne (hr.mono (by decide)) (by rfl) (pa_cons (pv 0) (pa_cons (pv 8) pa_nil))) (pa_cons (pe_own oLOne (hr.mono (by decide)) (by rfl) (pa_cons (pv 0) (pa_cons (pv 9) pa_nil))) pa_nil))))
    (pss_cons (ps_set (i := 14) scLRight.nd rfl (.inl rfl) (pe_own oLBoth (hr.mono (by decide)) (by rfl) (pa_cons (pv 5) (pa_cons (pe_ix (ixLK K) (pv 13) pe_int (fun _ _ => rfl)) (pa_cons (pe_ix (ixLK K) (pv 13) pe_int (fun _ _ => rfl)) pa_nil)))))
    (pss_cons (ps_set (i := 15) scLRight.nd rfl (.inl rfl) (pe_op op_add (pe_own oStepsBetween (hr.mono (by decide)) (by rfl) (pa_cons (pv 1) (pa_cons (pv 3) (pa_cons (pe_ix (ixLK K) (pv 13) pe_int (fun _ _ => rfl)) pa_nil)))) (pe_own oStepsBetween (hr.mono (by decide)) (by rfl) (pa_cons (pv 2) (pa_cons (pv 4) (pa_cons (pe_ix (ixLK K) (pv 13) pe_int (fun _ _ => rfl)) pa_nil))))))
    (pss_cons (ps_set (i := 16) scLRight.nd rfl (.inl rfl) (pe_own oShortestPlan (hr.mono (by decide)) (by rfl) (pa_cons (pv 1) (pa_cons (pv 3) (pa_cons (pe_ix (ixLK K) (pv 13) pe_int (fun _ _ => rfl)) pa_nil)))))
    (pss_cons (ps_set (i := 16) scLRight.nd rfl (.inl rfl) (pe_op (catAK K) (pv 16) (pe_callTy (tupleK K) (by rfl) m_tuple (by decide +kernel) (pa_cons (pe_lc (own := [("_law_u", 18), ("_law_v", 19)]) (g := (gTup K 2 (gCons (gName 18) (gCons (gName 19) gNil)))) (tt := tYes) rfl scLRight.nd (piTK K (pe_own oShortestPlan (hr.mono (by decide)) (by rfl) (pa_cons (pv 2) (pa_cons (pv 4) (pa_cons (pe_ix (ixLK K) (pv 13) pe_int (fun _ _ => rfl)) pa_nil)))))
      (blkOk_by (own := [("_law_u", 18), ("_law_v", 19)]) (N := nLRight) (sc := (defScope sLRight)) (by decide +kernel))
      (fun _ _ _ _ _ => (pgTK K (pgs_cons (pg_name (i := 18) scLRight.nd rfl (Or.inl rfl)) (pgs_cons (pg_name (i := 19) scLRight.nd rfl (Or.inl rfl)) pgs_nil)))) (fun _ _ _ _ _ => pts_nil)
      (fun _ _ _ _ _ => (pe_tup (pa_cons (pe_op op_add (pv 5) (pv 18)) (pa_cons (pe_op op_add (pv 5) (pv 19)) pa_nil))))) pa_nil))))
    (pss_one (ps_ret (pe_and (pe_chain op_eq op_eq (pe_own oStepsBetween (hr.mono (by decide)) (by rfl) (pa_cons (pv 6) (pa_cons (pv 7) (pa_cons (pv 14) pa_nil)))) (pv 15) (pe_callB (lenK K) (by rfl) m_len (by decide +kernel) (pa_cons (pv 16) pa_nil))) (pe_one (pe_cmpR (eqDK K hr.units) (pe_own oFollow (hr.mono (by decide)) (by rfl) (pa_cons (pv 6) (pa_cons (pv 7) (pa_cons (pv 16) pa_nil)))) (pv 14) (nomark _))))))))))))))))), ?_⟩
    obtain ⟨fa, fb, fxs, rfl, hfa, hfb, hfA⟩ := Dp.forI hx
    have lA := sA.len
    have lB := sB.len
    have bf := bes_for isf isg
    have sAB := bes_set isf isg sA sB
    have rB12 : ∀ b ∈ B, 0 ≤ b ∧ b ≤ 12 := fun b hb => by have := sB.rng b hb; omega
    refine ⟨.ref fa, rfl, fa, _, 0, .int (m : Int), rfl, rfl, hfa, atI_nat (j := 0) rfl, .ref fa, rfl, y, rfl, .ref fa, y, m, n, es, fs, rfl, by omega, isf, isg, hx, hy, fun H1 z s1 hz0 => ?_⟩
    have hz : Dp K H1 z (forD (m + n) (besE m es fs)) := hz0
    refine ⟨by show 2 ≤ sizeLine; decide, fun p np => ?_⟩
    have sp := same_upd (o := .tup [V.int m, z]) np
    refine ⟨p, _, rfl, SqT.of upd_same, rfl, .int m, _, rfl, z, _, rfl, rfl, ?_⟩
    have s02 := s1.trans sp
    have hz2 := Dp.same sp hz
    generalize upd H1 p _ = H2 at s02 hz2 ⊢
    refine ⟨.int m, rfl, .ref t1, rfl, .ref t2, rfl, m, .ref t1, .ref t2, S, B, rfl, by omega, Dp.ints (SqT.of (s02 _ _ ht1)), Dp.ints (SqT.of (s02 _ _ ht2)), by omega, by omega, rB12, fun H3 fst s3 dfst tk => ?_⟩
    obtain ⟨tf, rfl, etf⟩ := tk ⟨t1, rfl, s02 _ _ ht1⟩
    have s03 := s02.trans s3
    refine ⟨.ref fa, rfl, .ref t1, rfl, .ref fa, t1, m, es, S, rfl, by omega, isf, Dp.same s03 hx, s03 _ _ ht1, sA, fun H4 z1 ys1 L1 s4 ez1 tr1 nd1 all1 l1 => ?_⟩
    have s04 := s03.trans s4
    refine ⟨y, rfl, .ref t2, rfl, y, t2, n, fs, B, rfl, by omega, isg, Dp.same s04 hy, s04 _ _ ht2, sB, fun H5 z2 ys2 L2' s5 ez2 tr2 nd2 all2 l2 => ?_⟩
    refine ⟨_, _, _, rfl, ?_⟩
    have set1 : ∀ r ∈ L1, IsSet m es r := fun r hr => (((all1 r).mp hr).both isf sA).1
    have set2 : ∀ r ∈ L2', IsSet n fs r := fun r hr => (((all2 r).mp hr).both isg sB).1
    have few1 : L1.length ≤ 64 := Nat.le_trans (sets_few nd1 set1) (Nat.pow_le_pow_right (n := 2) (by decide) hm)
    have few2 : L2'.length ≤ 32 := Nat.le_trans (sets_few nd2 set2) (Nat.pow_le_pow_right (n := 2) (by decide) hn)
    obtain ⟨C1, eC1⟩ : ∃ C, C = L1.mergeSort (PySem.W.dataLe false intsD) := ⟨_, rfl⟩
    have pC1 : C1.Perm L1 := by rw [eC1]; exact List.mergeSort_perm _ _
    obtain ⟨C2, eC2⟩ : ∃ C, C = L2'.mergeSort (PySem.W.dataLe false intsD) := ⟨_, rfl⟩
    have pC2 : C2.Perm L2' := by rw [eC2]; exact List.mergeSort_perm _ _
    rw [← eC1] at tr1
    rw [← eC2] at tr2
    have lC1 : C1.length ≤ 64 := by rw [pC1.length_eq]; exact few1
    have lC2 : C2.length ≤ 32 := by rw [pC2.length_eq]; exact few2
    have mC1 : ∀ r ∈ C1, IsSet m es r := fun r hr => set1 r (pC1.mem_iff.mp hr)
    have mC2 : ∀ r ∈ C2, IsSet n fs r := fun r hr => set2 r (pC2.mem_iff.mp hr)
    have nC1 : C1.Nodup := pC1.nodup_iff.mpr nd1
    have nC2 : C2.Nodup := pC2.nodup_iff.mpr nd2
    have rC1 : ∀ r, r ∈ C1 ↔ Rch m es S r := fun r => pC1.mem_iff.trans (all1 r)
    have rC2 : ∀ r, r ∈ C2 ↔ Rch n fs B r := fun r => pC2.mem_iff.trans (all2 r)
    have s05 := s04.trans s5
    have ez1' := s5 _ _ ez1
    have tr1' := tr1.same s5
    have hz5 := Dp.same ((s3.trans s4).trans s5) hz2
    have etf5 := (s4.trans s5) _ _ etf
    have hx5 := Dp.same s05 hx
    have hy5 := Dp.same s05 hy
    have ht15 := s05 _ _ ht1
    have ht25 := s05 _ _ ht2
    have d5 := hD.same s05
    clear few1 few2 set1 set2 eC1 eC2 pC1 pC2 all1 all2 nd1 nd2 l1 l2 tr1 ez1 s5 s4 s3 hz hz0 hz2 dfst etf tk sp np s02 s03 s04
    dsimp only [gName]
    refine ⟨Nat.zero_le _, fun D nD => ?_⟩
    have sD := same_upd (o := .lst []) nD
    have eD := same_at (o := .lst []) nD
    have ly1 := tr1'.length
    refine ⟨.ref z1, rfl, z1, rfl, ⟨_, SqT.of (sD _ _ ez1')⟩, for_tup (K := K) (a := z1) (xs := ys1) (fun i σ H' => ∃ (y11 : Option V) (ws : List V), σ = [some (.ref d), some (.ref fa), some y, some (.ref t1), some (.ref t2), some (.int m), some z, some (.ref tf), some (.ref z1), some (.ref z2), some (.ref D), y11, none, none, none, none, none, none, none, none] ∧
      Same H5 H' ∧ H' D = some (.lst ws) ∧ DpAll K H' ws ((prodL m (C1.take i) C2).map intsD) ∧ ws.length ≤ 32 * i) ?_ ?_ ?_ ?_⟩
    · exact ⟨none, [], rfl, sD, eD, .nil, Nat.zero_le _⟩
    · rintro i σ H' _ ⟨_, ws, rfl, s', _⟩
      exact SqT.of (s' _ _ ez1')
    · rintro i v σ H6 hv ⟨y11, ws, rfl, s6, eD6, dw6, lw6⟩
      have hi := (List.getElem?_eq_some_iff.mp hv).1
      obtain ⟨b1, R, rfl, hR, hb⟩ := (tr1'.same s6).get hv
      have sR := mC1 R (List.mem_of_getElem? hR)
      have lR := sR.len
      have tk : prodL m (C1.take (i + 1)) C2 = prodL m (C1.take i) C2 ++ C2.map fun b => bothL m R b := by
        unfold prodL
        rw [List.take_add_one, hR, Option.toList_some, List.flatMap_append, List.flatMap_singleton]
      dsimp only [gName]
      refine ⟨.ref D, rfl, .inl ⟨rfl, _, SqL.of eD6⟩, .ref z2, rfl, z2, rfl, ⟨_, SqT.of (s6 _ _ ez2)⟩, fun E' nE => ?_⟩
      refine lc_tupD (K := K) (bs := C2) (e := intsD) (fun _ => true) (fun b => intsD (bothL m R b)) nE (SqT.of (s6 _ _ ez2)) (tr2.same s6).all (fun _ => rfl) (fun x b _ _ H' R s1 hR => hR H' (Same.refl _)) (fun x1 b hb' _ dx H' R' s7 hR' => ?_) (fun o => only_intsD _) (by omega) (fun H7 zs s7 eE dz => ?_)
      · have sb := mC2 b hb'
        have lb := sb.len
        exact ⟨.int m, rfl, .ref b1, rfl, x1, rfl, m, .ref b1, x1, R, b, rfl, by omega, Dp.ints (SqT.of (s7 _ _ hb)), Dp.same s7 dx, by omega, by omega, fun o ho => by have := sb.rng o ho; omega, fun H8 w s8 dw _ => hR' _ _ s8 dw⟩
      rw [filt_true] at dz
      have lz : zs.length = C2.length := by rw [DpAll.length dz, List.length_map]
      have eD7 := s7 _ _ eD6
      refine ⟨D, E', ws, zs, rfl, rfl, eD7, eE, sm5k (by omega), ?_⟩
      have kt : KT K H7 (upd H7 D (.lst (ws ++ zs))) := kt_lst eD7
      refine ⟨_, ws ++ zs, rfl, fun h o eh => ?_, upd_same, ?_, by rw [List.length_append]; omega⟩
      · rw [upd_ne (ne_of_none eh nD)]
        exact s7 _ _ (s6 _ _ eh)
      · rw [tk, List.map_append]
        refine DpAll.append (DpAll.kt kt (DpAll.same s7 dw6) (onlyRows _)) (DpAll.kt kt ?_ (onlyRows _))
        rw [List.map_map]
        exact dz
    · rintro σ H6 ⟨y11, ws, rfl, s6, eD6, dw6, lw6⟩
      rw [ly1, List.take_length] at dw6
      have lP : (prodL m C1 C2).length ≤ 2048 := by
        rw [prod_len]
        exact Nat.mul_le_mul lC1 lC2
      have hz6 := Dp.same s6 hz5
      have etf6 := s6 _ _ etf5
      dsimp only [gName]
      refine ⟨z, rfl, .ref tf, rfl, z, tf, m + n, besE m es fs, bothL m S B, rfl, by omega, bf, hz6, etf6, sAB, fun H7 z3 ys3 L3 s7 ez3 tr3 nd3 all3 l3 => ?_⟩
      refine ⟨z3, ys3, rfl, .inr (SqT.of ez3), fun P1 nP1 => ?_⟩
      have sP := same_upd (o := .lst ys3) nP1
      have eP := same_at (o := .lst ys3) nP1
      have s78 := s7.trans sP
      have tr3' := tr3.same sP
      generalize upd H7 P1 _ = H8 at eP s78 tr3' ⊢
      refine ⟨.ref D, rfl, ?_⟩
      unfold rSortRows
      refine ⟨prodL m C1 C2, D, ws, rfl, SqL.of (s78 _ _ eD6), DpAll.same s78 dw6, ?_, by omega, fun p9 us np9 du => ?_⟩
      · by_cases e0 : S.length + B.length = 0
        · refine .inr ?_
          have e1 : ∀ r ∈ C1, r = [] := fun r hr => by
            have := Rch.len isf sA ((rC1 r).mp hr)
            exact List.length_eq_zero_iff.mp (by omega)
          have e2 : ∀ r ∈ C2, r = [] := fun r hr => by
            have := Rch.len isg sB ((rC2 r).mp hr)
            exact List.length_eq_zero_iff.mp (by omega)
          have k1 : C1.length ≤ [([] : List Int)].length := nC1.length_le_of_subset fun r hr => by rw [e1 r hr]; exact List.mem_singleton.mpr rfl
          have k2 : C2.length ≤ [([] : List Int)].length := nC2.length_le_of_subset fun r hr => by rw [e2 r hr]; exact List.mem_singleton.mpr rfl
          rw [prod_len]
          exact Nat.mul_le_mul k1 k2
        · refine .inl fun W hW e => ?_
          obtain ⟨a, ha, b, hb, rfl⟩ := mem_prod.mp hW
          have h1 := congrArg List.length e
          rw [both_len, Rch.len isf sA ((rC1 a).mp ha), Rch.len isg sB ((rC2 b).mp hb)] at h1
          exact e0 h1
      have perm : L3.Perm (prodL m C1 C2) := by
        refine (List.perm_ext_iff_of_nodup nd3 (prod_nodup nC1 nC2 mC1 mC2)).mpr fun W => (all3 W).trans ?_
        rw [rch_split isf isg sA sB, mem_prod]
        constructor
        · rintro ⟨A', B', rfl, r1, r2⟩
          exact ⟨A', (rC1 A').mpr r1, B', (rC2 B').mpr r2, rfl⟩
        · rintro ⟨A', h1, B', h2, rfl⟩
          exact ⟨A', B', rfl, (rC1 A').mp h1, (rC2 B').mp h2⟩
      have sp9 := same_upd (o := .lst us) np9
      refine ⟨.list ((L3.mergeSort (PySem.W.dataLe false intsD)).map intsD), .list (((prodL m C1 C2).mergeSort (PySem.W.dataLe false intsD)).map intsD), .lst (SqL.of (sp9 _ _ eP)) (tr3'.same sp9).all, .lst (SqL.of upd_same) (DpAll.same sp9 du), shaped_rows _, shaped_rows _, _, rfl, ?_⟩
      rw [eqv_rows, decide_eq_true (rows_sort perm)]
      refine iteF ?_
      have s59 := s6.trans (s78.trans sp9)
      generalize upd H8 p9 _ = H9 at s59 ⊢
      clear sp9 perm tr3' s78 eP sP nP1 s7 ez3 tr3 nd3 all3 l3 du np9 hz6 etf6 dw6 eD6
      have hz9 := Dp.same s59 hz5
      have etf9 := s59 _ _ etf5
      have hx9 := Dp.same s59 hx5
      have hy9 := Dp.same s59 hy5
      have ht19 := s59 _ _ ht15
      have ht29 := s59 _ _ ht25
      have ez19 := s59 _ _ ez1'
      have ez29 := s59 _ _ ez2
      have tr19 := tr1'.same s59
      have tr29 := tr2.same s59
      have d9 := d5.same s59
      have s09 := s05.trans s59
      have m12 : m + n ≤ 12 := by omega
      have lAB := sAB.len
      refine ⟨by show 2 ≤ sizeLine; decide, fun L nL => ?_⟩
      have sL := same_upd (o := .lst [V.ref fG, V.ref fN]) nL
      have eL := same_at (o := .lst [V.ref fG, V.ref fN]) nL
      refine ⟨L, rfl, ⟨_, SqL.of eL⟩, for_list (K := K) (a := L) (xs := [V.ref fG, V.ref fN]) (fun j σ H' => ∃ (y12 : Option V), σ = [some (.ref d), some (.ref fa), some y, some (.ref t1), some (.ref t2), some (.int m), some z, some (.ref tf), some (.ref z1), some (.ref z2), some (.ref D), y11, y12, none, none, none, none, none, none, none] ∧ Same H9 H' ∧ H' L = some (.lst [V.ref fG, V.ref fN])) ?_ ?_ ?_ ?_⟩
      · exact ⟨none, rfl, sL, eL⟩
      · rintro j σ H' _ ⟨_, rfl, _, e'⟩
        exact SqL.of e'
      · rintro j v σ Ha hv ⟨y12, rfl, sa, ea⟩
        dsimp only [gName]
        have two : v = V.ref fG ∨ v = V.ref fN := by
          have := List.mem_of_getElem? hv
          rcases List.mem_cons.mp this with h | h
          · exact .inl h
          · exact .inr (List.mem_singleton.mp h)
        rcases two with rfl | rfl
        · refine ⟨fG, spGreatestLock K, rfl, if_pos rfl, z, rfl, .ref tf, rfl, z, .ref tf, m + n, besE m es fs, bothL m S B, rfl, m12, bf, Dp.same sa hz9, Dp.ints (SqT.of (sa _ _ etf9)), sAB.asc, by omega, fun Hb g G sb gr dg => ?_⟩
          have sab := sa.trans sb
          refine ⟨.int m, rfl, fG, spGreatestLock K, rfl, if_pos rfl, .ref fa, rfl, .ref t1, rfl, .ref fa, .ref t1, m, es, S, rfl, by omega, isf, Dp.same sab hx9, Dp.ints (SqT.of (sab _ _ ht19)), sA.asc, by omega, fun Hc g1 G1 sc gr1 dg1 => ?_⟩
          have sac := sab.trans sc
          refine ⟨fG, spGreatestLock K, rfl, if_pos rfl, y, rfl, .ref t2, rfl, y, .ref t2, n, fs, B, rfl, by omega, isg, Dp.same sac hy9, Dp.ints (SqT.of (sac _ _ ht29)), sB.asc, by omega, fun Hd g2 G2 sd gr2 dg2 => ?_⟩
          have lG1 := (gr1.set sA).len
          have lG2 := (gr2.set sB).len
          refine ⟨m, g1, g2, G1, G2, rfl, by omega, Dp.same sd dg1, dg2, by omega, by omega, fun o ho => by have := sB.rng o (gr2.sub o ho); omega, fun He w se dw _ => ?_⟩
          refine ⟨intsD G, intsD (bothL m G1 G2), Dp.same ((sc.trans sd).trans se) dg, dw, shaped_intT _, shaped_intT _, _, rfl, ?_⟩
          rw [eqv_intsD, decide_eq_true (gr.uniq (gr_both isf isg sA sB gr1 gr2))]
          exact iteF ⟨_, rfl, (sac.trans sd).trans se, se _ _ (sd _ _ (sc _ _ (sb _ _ ea)))⟩
        · have pN : (fun f' => if f' = fG then some (spGreatestLock K) else if f' = fN then some (spNormalSetting K) else none) fN = some (spNormalSetting K) := (if_neg ne.symm).trans (if_pos rfl)
          refine ⟨fN, spNormalSetting K, rfl, pN, z, rfl, .ref tf, rfl, z, .ref tf, m + n, besE m es fs, bothL m S B, rfl, m12, bf, Dp.same sa hz9, Dp.ints (SqT.of (sa _ _ etf9)), sAB, fun Hb g G sb gr dg => ?_⟩
          have sab := sa.trans sb
          refine ⟨.int m, rfl, fN, spNormalSetting K, rfl, pN, .ref fa, rfl, .ref t1, rfl, .ref fa, .ref t1, m, es, S, rfl, by omega, isf, Dp.same sab hx9, Dp.ints (SqT.of (sab _ _ ht19)), sA, fun Hc g1 G1 sc gr1 dg1 => ?_⟩
          have sac := sab.trans sc
          refine ⟨fN, spNormalSetting K, rfl, pN, y, rfl, .ref t2, rfl, y, .ref t2, n, fs, B, rfl, by omega, isg, Dp.same sac hy9, Dp.ints (SqT.of (sac _ _ ht29)), sB, fun Hd g2 G2 sd gr2 dg2 => ?_⟩
          have q1 := ((gr1.rch isf sA).both isf sA).1
          have q2 := ((gr2.rch isg sB).both isg sB).1
          have lG1 := q1.len
          have lG2 := q2.len
          refine ⟨m, .ref g1, .ref g2, G1, G2, rfl, by omega, Dp.ints (SqT.of (sd _ _ dg1)), Dp.ints (SqT.of dg2), by omega, by omega, fun o ho => by have := q2.rng o ho; omega, fun He w se dw _ => ?_⟩
          refine ⟨intsD G, intsD (bothL m G1 G2), Dp.ints (SqT.of (se _ _ (sd _ _ (sc _ _ dg)))), dw, shaped_intT _, shaped_intT _, _, rfl, ?_⟩
          rw [eqv_intsD, decide_eq_true (gr.same bf sAB .refl (nrm_both isf isg sA sB gr1 gr2))]
          exact iteF ⟨_, rfl, (sac.trans sd).trans se, se _ _ (sd _ _ (sc _ _ (sb _ _ ea)))⟩
      · rintro σ Ha ⟨y12, rfl, sa, _⟩
        have y1l := tr19.length
        have y2l := tr29.length
        have pos1 : 0 < C1.length := List.length_pos_of_mem ((rC1 S).mpr .refl)
        have pos2 : 0 < C2.length := List.length_pos_of_mem ((rC2 B).mpr .refl)
        have da := d9.same sa
        have ez1a := sa _ _ ez19
        have ez2a := sa _ _ ez29
        refine ⟨.ref d, rfl, .ref z1, rfl, d, r, c, z1, k, ys1, rfl, da, by omega, ez1a, dwOff da ez1a, by omega, by omega, fun Hb w1 fb1 db my1 => ?_⟩
        have ez2b := dwTup da fb1 ez2a
        refine ⟨.ref d, rfl, .ref z2, rfl, d, r, c, z2, _, ys2, rfl, db, by omega, ez2b, dwOff db ez2b, by omega, by omega, fun Hc w2 fc1 dc my2 => ?_⟩
        have fac : Fm d r Ha Hc := fb1.trans fc1
        obtain ⟨i1, hi1⟩ := List.getElem?_of_mem my1
        obtain ⟨b1, R1, rfl, hR1, eb1⟩ := (tr19.same sa).get hi1
        obtain ⟨i2, hi2⟩ := List.getElem?_of_mem my2
        obtain ⟨b2, R2, rfl, hR2, eb2⟩ := (tr29.same sa).get hi2
        have mR1 := List.mem_of_getElem? hR1
        have mR2 := List.mem_of_getElem? hR2
        have sR1 := mC1 R1 mR1
        have sR2 := mC2 R2 mR2
        have lR1 := sR1.len
        have lR2 := sR2.len
        have ktc : KT K Ha Hc := fac.ktw da
        refine ⟨by show 2 ≤ sizeLine; decide, fun Le nLe => ?_⟩
        have sLe := same_upd (o := .lst [V.ref b1, V.ref b2]) nLe
        have eLe := same_at (o := .lst [V.ref b1, V.ref b2]) nLe
        have kte := ktc.trans (Same.kt sLe)
        have hxe := Dp.kt kte (Dp.same sa hx9) (only_forD _ _)
        have hye := Dp.kt kte (Dp.same sa hy9) (only_forD _ _)
        have hze := Dp.kt kte (Dp.same sa hz9) (only_forD _ _)
        have ht1e := sLe _ _ (dwTup da fac (sa _ _ ht19))
        have ht2e := sLe _ _ (dwTup da fac (sa _ _ ht29))
        have etfe := sLe _ _ (dwTup da fac (sa _ _ etf9))
        have eb1e := sLe _ _ (dwTup da fac eb1)
        have eb2e := sLe _ _ (dwTup da fac eb2)
        have de := dc.same sLe
        have fin : Fm d r H (upd Hc Le (.lst [V.ref b1, V.ref b2])) := (Same.fm (s09.trans sa)).trans (fac.trans (Same.fm sLe))
        generalize upd Hc Le _ = He at eLe hxe hye hze ht1e ht2e etfe eb1e eb2e de fin ⊢
        clear sLe kte ktc fac fb1 fc1 nLe eb1 eb2 da ez1a ez2a ez2b sa tr19 tr29 ez19 ez29 d9 s09 hx9 hy9 hz9 ht19 ht29 etf9
        dsimp only [gName]
        refine ⟨.int m, rfl, .ref Le, rfl, Le, _, 0, .ref b1, rfl, rfl, SqL.of eLe, atI_nat (j := 0) rfl, .ref Le, rfl, Le, _, 1, .ref b2, rfl, rfl, SqL.of eLe, atI_nat (j := 1) rfl, m, .ref b1, .ref b2, R1, R2, rfl, by omega, Dp.ints (SqT.of eb1e), Dp.ints (SqT.of eb2e), by omega, by omega, fun o ho => by have := sR2.rng o ho; omega, fun Hf sec sf dsec tks => ?_⟩
        obtain ⟨ts, rfl, ets⟩ := tks ⟨b1, rfl, eb1e⟩
        have eLf := sf _ _ eLe
        have eb1f := sf _ _ eb1e
        have eb2f := sf _ _ eb2e
        refine ⟨.ref fa, rfl, .ref t1, rfl, .ref Le, rfl, Le, _, 0, .ref b1, rfl, rfl, SqL.of eLf, atI_nat (j := 0) rfl, .ref fa, t1, b1, m, es, S, R1, rfl, by omega, isf, Dp.same sf hxe, sf _ _ ht1e, sA, eb1f, fun Hg v1 sg h1 => ?_⟩
        have seg := sf.trans sg
        refine ⟨y, rfl, .ref t2, rfl, .ref Le, rfl, Le, _, 1, .ref b2, rfl, rfl, SqL.of (sg _ _ eLf), atI_nat (j := 1) rfl, y, t2, b2, n, fs, B, R2, rfl, by omega, isg, Dp.same seg hye, seg _ _ ht2e, sB, sg _ _ eb2f, fun Hh v2 sh h2 => ?_⟩
        have rch1 := (rC1 R1).mp mR1
        have rch2 := (rC2 R2).mp mR2
        obtain ⟨i, di, rfl⟩ : ∃ i, Dst m es S i R1 ∧ v1 = .int (i : Int) := by
          rcases h1 with ⟨i, d', e⟩ | ⟨no, _⟩
          · exact ⟨i, d', e⟩
          · obtain ⟨kk, hk'⟩ := rch1.rn
            obtain ⟨i, hi'⟩ := Dst.least hk'
            exact absurd hi' (no i)
        obtain ⟨j, dj, rfl⟩ : ∃ j, Dst n fs B j R2 ∧ v2 = .int (j : Int) := by
          rcases h2 with ⟨i, d', e⟩ | ⟨no, _⟩
          · exact ⟨i, d', e⟩
          · obtain ⟨kk, hk'⟩ := rch2.rn
            obtain ⟨i, hi'⟩ := Dst.least hk'
            exact absurd hi' (no i)
        refine ⟨_, _, rfl, rfl, ?_⟩
        have seh := seg.trans sh
        refine ⟨.ref fa, rfl, .ref t1, rfl, .ref Le, rfl, Le, _, 0, .ref b1, rfl, rfl, SqL.of (seh _ _ eLe), atI_nat (j := 0) rfl, .ref fa, t1, b1, m, es, S, R1, rfl, by omega, isf, Dp.same seh hxe, seh _ _ ht1e, seh _ _ eb1e, sA, sR1, fun Hi pl si hpl => ?_⟩
        rcases hpl with ⟨nr, _⟩ | ⟨_, pb, pxs, ps, shp, rfl, epb, dps, lps⟩
        · exact absurd rch1 nr
        have sei := seh.trans si
        refine ⟨.ref pb, rfl, y, rfl, .ref t2, rfl, .ref Le, rfl, Le, _, 1, .ref b2, rfl, rfl, SqL.of (sei _ _ eLe), atI_nat (j := 1) rfl, y, t2, b2, n, fs, B, R2, rfl, by omega, isg, Dp.same sei hye, sei _ _ ht2e, sei _ _ eb2e, sB, sR2, fun Hj pl2 sj hpl2 => ?_⟩
        rcases hpl2 with ⟨nr, _⟩ | ⟨_, pb2, pxs2, ps2, shp2, rfl, epb2, dps2, lps2⟩
        · exact absurd rch2 nr
        have sej := sei.trans sj
        obtain ⟨wk1, dst1⟩ := shp.walk
        obtain ⟨wk2, dst2⟩ := shp2.walk
        have e1 : ps.length = i := (dst1.back isf sR1).uniq di
        have e2 : ps2.length = j := (dst2.back isg sR2).uniq dj
        have l1 : ps.length ≤ 64 := Nat.le_trans ((dst1.back isf sR1).small fun r hr => (rC1 r).mpr hr) lC1
        have l2 : ps2.length ≤ 32 := Nat.le_trans ((dst2.back isg sR2).small fun r hr => (rC2 r).mpr hr) lC2
        refine ⟨pb2, rfl, ⟨_, SqT.of epb2⟩, fun D2 nD2 => ?_⟩
        refine lc_tupP (K := K) (fun _ => true) (fun p => prD (shf m p)) nD2 (SqT.of epb2) dps2 (fun _ _ => rfl) (fun o _ H' R s1 hR => hR H' (Same.refl _)) (fun p hp _ H' R s16 hR => ?_) (fun o => only_pr _) (by omega) (fun Hk us sk eD2 du => ?_)
        · refine ⟨.int m, rfl, .int p.1, rfl, _, _, rfl, rfl, .int m, rfl, .int p.2, rfl, _, _, rfl, rfl, by show 2 ≤ sizeLine; decide, fun u nu => ?_⟩
          have ee : (V.int ((m : Int) + p.1) = V.int (p.1 + (m : Int))) ∧ V.int ((m : Int) + p.2) = V.int (p.2 + (m : Int)) := ⟨by rw [Int.add_comm], by rw [Int.add_comm]⟩
          have eu : upd H' u (.tup [V.int ((m : Int) + p.1), V.int ((m : Int) + p.2)]) u = some (.tup [V.int (shf m p).1, V.int (shf m p).2]) := by
            rw [upd_same, ee.1, ee.2]
            rfl
          exact hR _ _ (same_upd nu) (Dp.pr (SqT.of eu))
        rw [filt_true] at du
        have du2 : DpAll K Hk us ((ps2.map (shf m)).map prD) := by rw [List.map_map]; exact du
        refine ⟨D2, us, rfl, .inl ⟨SqL.of eD2, fun tt ntt => ?_⟩⟩
        have stt := same_upd (o := .tup us) ntt
        have dtt : Dp K (upd Hk tt (.tup us)) (.ref tt) (.tuple ((ps2.map (shf m)).map prD)) := .tup (SqT.of upd_same) (DpAll.same stt du2)
        have sjt := (sj.trans sk).trans stt
        refine catD (.tup (SqT.of (sjt _ _ epb)) (DpAll.same sjt dps)) dtt (by rw [List.length_map, List.length_map, List.length_map]; omega) fun Hl zp sl dzp => ?_
        obtain ⟨pz, pzs, rfl, hpz, dpz⟩ := Dp.tupI dzp
        have lpz := DpAll.length dpz
        rw [List.length_append, List.length_map, List.length_map, List.length_map] at lpz
        have sel := (((sej.trans sk).trans stt).trans sl)
        have sfl := (((((((sg.trans sh).trans si).trans sj).trans sk).trans stt).trans sl))
        have etsl := sfl _ _ ets
        have hzl := Dp.same sel hze
        have etfl := sel _ _ etfe
        have sRR := bes_set isf isg sR1 sR2
        dsimp only [gName]
        refine ⟨z, rfl, .ref tf, rfl, .ref ts, rfl, z, tf, ts, m + n, besE m es fs, bothL m S B, bothL m R1 R2, rfl, m12, bf, hzl, etfl, sAB, etsl, fun Hm v3 sm h3 => ?_⟩
        have dd := dst_both isf isg sA sB di dj
        have ev : v3 = .int ((i : Int) + (j : Int)) := by
          rcases h3 with ⟨k3, d', rfl⟩ | ⟨no, _⟩
          · rw [d'.uniq dd]
            rfl
          · exact absurd dd (no _)
        subst ev
        refine ⟨.int ((i : Int) + (j : Int)), rfl, rfl, true, by rw [decide_eq_true rfl], ?_⟩
        rw [if_pos rfl]
        refine ⟨.ref pz, rfl, pz, _, rfl, .inr (Same.tup sm hpz), rfl, true, by rw [decide_eq_true]; congr 1; omega, ?_⟩
        rw [if_pos rfl]
        have slm := sm
        refine ⟨z, rfl, .ref tf, rfl, .ref pz, rfl, z, .ref tf, .ref pz, m + n, besE m es fs, bothL m S B, bothL m R1 R2, ps ++ ps2.map (shf m), rfl, m12, bf, Dp.same sm hzl, Dp.ints (SqT.of (sm _ _ etfl)), sAB, ?_, ?_, fun Hn w sn _ dw => ?_⟩
        · have : Dp K Hm (.ref pz) (.tuple (ps.map prD ++ (ps2.map (shf m)).map prD)) := Dp.same sm (.tup hpz dpz)
          unfold prsD
          rw [List.map_append]
          exact this
        · rw [walk_app (walk_left isf isg sB sA wk1)]
          exact walk_right isf isg sR1 sB wk2
        · refine ⟨.ref ts, rfl, intsD (bothL m R1 R2), intsD (bothL m R1 R2), dw, Dp.ints (SqT.of ((sm.trans sn) _ _ etsl)), shaped_intT _, shaped_intT _, ?_⟩
          rw [eqv_intsD, decide_eq_true rfl]
          have sen := (sel.trans sm).trans sn
          exact q _ (fin.trans (Same.fm sen)) ((de.same sen).le (by omega))
end
end TL
namespace TL
open PySem PySem.Spec PyProof.Rows L2
section
variable {P : Program} {w : World} {K : PySem.W.Frag} {mg : Str → Option Value} {base : Heap}
/-! ### the law -/
def spLaw (K : PySem.W.Frag) : Sp := fun vs H Q _ => ∃ (a : Addr) (ns : List Int), vs = [.ref a] ∧ SqL K H a (ns.map V.int) ∧ ns.length ≤ 63 ∧ ∀ H', Q (.bl true) H'
theorem ok_Law {f : Addr} {fd : FuncData} (F : Fun K "law" "law" sLaw f fd) (m_range : mg "range" = none)
    (oLDraws : Own P w K mg base "_law_draws" 1 ["_law_script"] (spLDraws K)) (oLForest : Own P w K mg base "_law_forest" 3 ["_law_state", "_law_least", "_law_most"] (spLForest K)) (oLSetting : Own P w K mg base "_law_setting" 3 ["_law_state", "_law_forest_here"] (spLSetting K))
    (oLRight : Own P w K mg base "_law_right" 7 ["_law_state", "_law_left", "_law_right_here", "_law_one_here", "_law_other"] (spLRight K)) :
    FnG P w K mg base 8 f fd ["_law_script"] (spLaw K) := by
  refine okG F scLaw (fun vs H Q E h => ?_) (fun cdv A outer s H vs Q E hr gd h => ?_)
  · obtain ⟨a, ns, rfl, _⟩ := h
    rfl
  · obtain ⟨a, ns, rfl, hS, hlen, q⟩ := h
    refine ⟨_, (pss_cons (ps_set (i := 1) scLaw.nd rfl (.inl rfl) (pe_own oLDraws (hr.mono (by decide)) (by rfl) (pa_cons (pv 0) pa_nil)))
    (pss_cons (ps_for PassesOwn.never rfl (pi_range1 (by rfl) m_range (pa_cons pe_int pa_nil)) (pg_name (i := 2) scLaw.nd rfl (Or.inl rfl))
    (pss_cons (ps_par (by rfl) scLaw.nd (i := 3) (j := 4) rfl rfl (by decide) rfl rfl (pa_cons (pe_own oLForest (hr.mono (by decide)) (by rfl) (pa_cons (pv 1) (pa_cons pe_int (pa_cons pe_int pa_nil)))) (pa_cons (pe_own oLForest (hr.mono (by decide)) (by rfl) (pa_cons (pv 1) (pa_cons pe_int (pa_cons pe_int pa_nil)))) pa_nil)) (by rfl))
    (pss_one (ps_if (pt_not (pt_val (pe_own oLRight (hr.mono (by decide)) (by rfl) (pa_cons (pv 1) (pa_cons (pv 3) (pa_cons (pv 4) (pa_cons (pe_own oLSetting (hr.mono (by decide)) (by rfl) (pa_cons (pv 1) (pa_cons (pv 3) pa_nil))) (pa_cons (pe_own oLSetting (hr.mono (by decide)) (by rfl) (pa_cons (pv 1) (pa_cons (pv 4) pa_nil))) pa_nil)))))))) (pss_one (ps_ret pe_bl)) pss_nil))))
    (pss_one (ps_ret pe_bl)))), ?_⟩
    refine ⟨.ref a, rfl, a, ns, rfl, hS, hlen, fun H1 d r c s1 d1 => ?_⟩
    dsimp only [gName]
    refine ⟨5, rfl, by decide, by decide, for_range (lo := 0) (n := 5) (fun i σ H' => ∃ y2 y3 y4, σ = [some (.ref a), some (.ref d), y2, y3, y4] ∧ Dw H' d r c (400 * i)) ?_ ?_ ?_⟩
    · exact ⟨_, _, _, rfl, d1⟩
    · rintro i σ H2 hi ⟨y2, y3, y4, rfl, d2⟩
      dsimp only [gName]
      refine ⟨.ref d, rfl, d, r, c, _, 0, 6, rfl, by decide, by decide, d2, by omega, fun H3 x m es f3 d3 _ hm isf hx => ?_⟩
      refine ⟨.ref d, rfl, d, r, c, _, 0, 5, rfl, by decide, by decide, d3, by omega, fun H4 y n fs f4 d4 _ hn isg hy => ?_⟩
      refine ⟨_, _, rfl, ?_⟩
      have hx4 := Dp.kt (f4.ktw d3) hx (only_forD _ _)
      refine ⟨.ref d, rfl, x, rfl, y, rfl, .ref d, rfl, x, rfl, d, r, c, _, x, m, es, rfl, d4, by omega, by omega, isf, hx4, fun H5 t1 S f5 d5 iss nt1 et1 => ?_⟩
      have hx5 := Dp.kt (f5.ktw d4) hx4 (only_forD _ _)
      have hy5 := Dp.kt (f5.ktw d4) hy (only_forD _ _)
      refine ⟨.ref d, rfl, y, rfl, d, r, c, _, y, n, fs, rfl, d5, by omega, by omega, isg, hy5, fun H6 t2 B f6 d6 iss2 nt2 et2 => ?_⟩
      refine ⟨d, r, c, _, x, y, t1, t2, m, n, es, fs, S, B, rfl, d6, by omega, by omega, by omega, isf, isg, Dp.kt (f6.ktw d5) hx5 (only_forD _ _), Dp.kt (f6.ktw d5) hy5 (only_forD _ _), dwTup d5 f6 et1, et2, iss, iss2, fun H7 f7 d7 => ⟨true, rfl, iteF ⟨_, _, _, rfl, d7.le (by omega)⟩⟩⟩
    · rintro σ H' _
      exact q _
end
end TL
namespace TL
open PySem PySem.Spec PyProof.Rows L2
section
variable {P : Program} {w : World} {K : PySem.W.Frag} {mg : Str → Option Value} {base : Heap}
end
theorem all_mk {l : PySem.W.OpenLaw} {w : World} {K : PySem.W.Frag} {h : Heap} {mg : Str → Option Value} {fa f0 f1 f2 f3 f4 f5 f6 f7 f8 f9 f10 f11 f12 f13 f14 f15 f16 f17 f18 f19 f20 f21 f22 f23 f24 f25 f26 f27 f28 f29 f30 f31 f32 f33 f34 f35 f36 f37 : Addr} (X : K.In h) (G : h.Ns mainGlobals mg) (hfa : mg "law" = some (.ref fa))
    {od0 an0 od1 an1 od2 an2 od3 an3 od4 an4 od5 an5 od6 an6 od7 an7 od8 an8 od9 an9 od10 an10 od11 an11 od12 an12 od13 an13 od14 an14 od15 an15 od16 an16 od17 an17 od18 an18 od19 an19 od20 an20 od21 an21 od22 an22 od23 an23 od24 an24 od25 an25 od26 an26 od27 an27 od28 an28 od29 an29 od30 an30 od31 an31 od32 an32 od33 an33 od34 an34 od35 an35 od36 an36 od37 an37 : Option Addr} {sl0 sl1 sl2 sl3 sl4 sl5 sl6 sl7 sl8 sl9 sl10 sl11 sl12 sl13 sl14 sl15 sl16 sl17 sl18 sl19 sl20 sl21 sl22 sl23 sl24 sl25 sl26 sl27 sl28 sl29 sl30 sl31 sl32 sl33 sl34 sl35 sl36 sl37 : Array (Option Value)} {oc0 kV0 dc0 pm0 cd0 ct0 oc1 kV1 dc1 pm1 cd1 ct1 oc2 kV2 dc2 pm2 cd2 ct2 oc3 kV3 dc3 pm3 cd3 ct3 oc4 kV4 dc4 pm4 cd4 ct4 oc5 kV5 dc5 pm5 cd5 ct5 oc6 kV6 dc6 pm6 cd6 ct6 oc7 kV7 dc7 pm7 cd7 ct7 oc8 kV8 dc8 pm8 cd8 ct8 oc9 kV9 dc9 pm9 cd9 ct9 oc10 kV10 dc10 pm10 cd10 ct10 oc11 kV11 dc11 pm11 cd11 ct11 oc12 kV12 dc12 pm12 cd12 ct12 oc13 kV13 dc13 pm13 cd13 ct13 oc14 kV14 dc14 pm14 cd14 ct14 oc15 kV15 dc15 pm15 cd15 ct15 oc16 kV16 dc16 pm16 cd16 ct16 oc17 kV17 dc17 pm17 cd17 ct17 oc18 kV18 dc18 pm18 cd18 ct18 oc19 kV19 dc19 pm19 cd19 ct19 oc20 kV20 dc20 pm20 cd20 ct20 oc21 kV21 dc21 pm21 cd21 ct21 oc22 kV22 dc22 pm22 cd22 ct22 oc23 kV23 dc23 pm23 cd23 ct23 oc24 kV24 dc24 pm24 cd24 ct24 oc25 kV25 dc25 pm25 cd25 ct25 oc26 kV26 dc26 pm26 cd26 ct26 oc27 kV27 dc27 pm27 cd27 ct27 oc28 kV28 dc28 pm28 cd28 ct28 oc29 kV29 dc29 pm29 cd29 ct29 oc30 kV30 dc30 pm30 cd30 ct30 oc31 kV31 dc31 pm31 cd31 ct31 oc32 kV32 dc32 pm32 cd32 ct32 oc33 kV33 dc33 pm33 cd33 ct33 oc34 kV34 dc34 pm34 cd34 ct34 oc35 kV35 dc35 pm35 cd35 ct35 oc36 kV36 dc36 pm36 cd36 ct36 oc37 kV37 dc37 pm37 cd37 ct37 : Value}
    (a0 : PySem.W.nsIn K mainGlobals "is_number" = some (some (.ref f0))) (l0 : K.lookup f0 = some ⟨oc0, od0, .func (PySem.W.fnOf "is_number" "is_number" (defArgs sIsNumber) (defBody sIsNumber) (defScope sIsNumber) .none kV0 dc0 pm0 an0 cd0 ct0), sl0⟩) (c0 : PySem.W.codeIn K cd0 "is_number" = true) (k0 : PySem.W.keepIn K (.ref f0) = true)
    (a1 : PySem.W.nsIn K mainGlobals "is_pair" = some (some (.ref f1))) (l1 : K.lookup f1 = some ⟨oc1, od1, .func (PySem.W.fnOf "is_pair" "is_pair" (defArgs sIsPair) (defBody sIsPair) (defScope sIsPair) .none kV1 dc1 pm1 an1 cd1 ct1), sl1⟩) (c1 : PySem.W.codeIn K cd1 "is_pair" = true) (k1 : PySem.W.keepIn K (.ref f1) = true)
    (a2 : PySem.W.nsIn K mainGlobals "merged" = some (some (.ref f2))) (l2 : K.lookup f2 = some ⟨oc2, od2, .func (PySem.W.fnOf "merged" "merged" (defArgs sMerged) (defBody sMerged) (defScope sMerged) .none kV2 dc2 pm2 an2 cd2 ct2), sl2⟩) (c2 : PySem.W.codeIn K cd2 "merged" = true) (k2 : PySem.W.keepIn K (.ref f2) = true)
    (a3 : PySem.W.nsIn K mainGlobals "neighbours_of" = some (some (.ref f3))) (l3 : K.lookup f3 = some ⟨oc3, od3, .func (PySem.W.fnOf "neighbours_of" "neighbours_of" (defArgs sNeighboursOf) (defBody sNeighboursOf) (defScope sNeighboursOf) .none kV3 dc3 pm3 an3 cd3 ct3), sl3⟩) (c3 : PySem.W.codeIn K cd3 "neighbours_of" = true) (k3 : PySem.W.keepIn K (.ref f3) = true)
    (a4 : PySem.W.nsIn K mainGlobals "parts_of" = some (some (.ref f4))) (l4 : K.lookup f4 = some ⟨oc4, od4, .func (PySem.W.fnOf "parts_of" "parts_of" (defArgs sPartsOf) (defBody sPartsOf) (defScope sPartsOf) .none kV4 dc4 pm4 an4 cd4 ct4), sl4⟩) (c4 : PySem.W.codeIn K cd4 "parts_of" = true) (k4 : PySem.W.keepIn K (.ref f4) = true)
    (a5 : PySem.W.nsIn K mainGlobals "blocking_lamps" = some (some (.ref f5))) (l5 : K.lookup f5 = some ⟨oc5, od5, .func (PySem.W.fnOf "blocking_lamps" "blocking_lamps" (defArgs sBlockingLamps) (defBody sBlockingLamps) (defScope sBlockingLamps) .none kV5 dc5 pm5 an5 cd5 ct5), sl5⟩) (c5 : PySem.W.codeIn K cd5 "blocking_lamps" = true) (k5 : PySem.W.keepIn K (.ref f5) = true)
    (a6 : PySem.W.nsIn K mainGlobals "check_lamp" = some (some (.ref f6))) (l6 : K.lookup f6 = some ⟨oc6, od6, .func (PySem.W.fnOf "check_lamp" "check_lamp" (defArgs sCheckLamp) (defBody sCheckLamp) (defScope sCheckLamp) .none kV6 dc6 pm6 an6 cd6 ct6), sl6⟩) (c6 : PySem.W.codeIn K cd6 "check_lamp" = true) (k6 : PySem.W.keepIn K (.ref f6) = true)
    (a7 : PySem.W.nsIn K mainGlobals "slide_lamp" = some (some (.ref f7))) (l7 : K.lookup f7 = some ⟨oc7, od7, .func (PySem.W.fnOf "slide_lamp" "slide_lamp" (defArgs sSlideLamp) (defBody sSlideLamp) (defScope sSlideLamp) .none kV7 dc7 pm7 an7 cd7 ct7), sl7⟩) (c7 : PySem.W.codeIn K cd7 "slide_lamp" = true) (k7 : PySem.W.keepIn K (.ref f7) = true)
    (a8 : PySem.W.nsIn K mainGlobals "possible_slides" = some (some (.ref f8))) (l8 : K.lookup f8 = some ⟨oc8, od8, .func (PySem.W.fnOf "possible_slides" "possible_slides" (defArgs sPossibleSlides) (defBody sPossibleSlides) (defScope sPossibleSlides) .none kV8 dc8 pm8 an8 cd8 ct8), sl8⟩) (c8 : PySem.W.codeIn K cd8 "possible_slides" = true) (k8 : PySem.W.keepIn K (.ref f8) = true)
    (a9 : PySem.W.nsIn K mainGlobals "is_possible" = some (some (.ref f9))) (l9 : K.lookup f9 = some ⟨oc9, od9, .func (PySem.W.fnOf "is_possible" "is_possible" (defArgs sIsPossible) (defBody sIsPossible) (defScope sIsPossible) .none kV9 dc9 pm9 an9 cd9 ct9), sl9⟩) (c9 : PySem.W.codeIn K cd9 "is_possible" = true) (k9 : PySem.W.keepIn K (.ref f9) = true)
    (a10 : PySem.W.nsIn K mainGlobals "follow" = some (some (.ref f10))) (l10 : K.lookup f10 = some ⟨oc10, od10, .func (PySem.W.fnOf "follow" "follow" (defArgs sFollow) (defBody sFollow) (defScope sFollow) .none kV10 dc10 pm10 an10 cd10 ct10), sl10⟩) (c10 : PySem.W.codeIn K cd10 "follow" = true) (k10 : PySem.W.keepIn K (.ref f10) = true)
    (a11 : PySem.W.nsIn K mainGlobals "distances_from" = some (some (.ref f11))) (l11 : K.lookup f11 = some ⟨oc11, od11, .func (PySem.W.fnOf "distances_from" "distances_from" (defArgs sDistancesFrom) (defBody sDistancesFrom) (defScope sDistancesFrom) .none kV11 dc11 pm11 an11 cd11 ct11), sl11⟩) (c11 : PySem.W.codeIn K cd11 "distances_from" = true) (k11 : PySem.W.keepIn K (.ref f11) = true)
    (a12 : PySem.W.nsIn K mainGlobals "class_of" = some (some (.ref f12))) (l12 : K.lookup f12 = some ⟨oc12, od12, .func (PySem.W.fnOf "class_of" "class_of" (defArgs sClassOf) (defBody sClassOf) (defScope sClassOf) .none kV12 dc12 pm12 an12 cd12 ct12), sl12⟩) (c12 : PySem.W.codeIn K cd12 "class_of" = true) (k12 : PySem.W.keepIn K (.ref f12) = true)
    (a13 : PySem.W.nsIn K mainGlobals "steps_between" = some (some (.ref f13))) (l13 : K.lookup f13 = some ⟨oc13, od13, .func (PySem.W.fnOf "steps_between" "steps_between" (defArgs sStepsBetween) (defBody sStepsBetween) (defScope sStepsBetween) .none kV13 dc13 pm13 an13 cd13 ct13), sl13⟩) (c13 : PySem.W.codeIn K cd13 "steps_between" = true) (k13 : PySem.W.keepIn K (.ref f13) = true)
    (a14 : PySem.W.nsIn K mainGlobals "closer_slide" = some (some (.ref f14))) (l14 : K.lookup f14 = some ⟨oc14, od14, .func (PySem.W.fnOf "closer_slide" "closer_slide" (defArgs sCloserSlide) (defBody sCloserSlide) (defScope sCloserSlide) .none kV14 dc14 pm14 an14 cd14 ct14), sl14⟩) (c14 : PySem.W.codeIn K cd14 "closer_slide" = true) (k14 : PySem.W.keepIn K (.ref f14) = true)
    (a15 : PySem.W.nsIn K mainGlobals "shortest_plan" = some (some (.ref f15))) (l15 : K.lookup f15 = some ⟨oc15, od15, .func (PySem.W.fnOf "shortest_plan" "shortest_plan" (defArgs sShortestPlan) (defBody sShortestPlan) (defScope sShortestPlan) .none kV15 dc15 pm15 an15 cd15 ct15), sl15⟩) (c15 : PySem.W.codeIn K cd15 "shortest_plan" = true) (k15 : PySem.W.keepIn K (.ref f15) = true)
    (a16 : PySem.W.nsIn K mainGlobals "side_by_side" = some (some (.ref f16))) (l16 : K.lookup f16 = some ⟨oc16, od16, .func (PySem.W.fnOf "side_by_side" "side_by_side" (defArgs sSideBySide) (defBody sSideBySide) (defScope sSideBySide) .none kV16 dc16 pm16 an16 cd16 ct16), sl16⟩) (c16 : PySem.W.codeIn K cd16 "side_by_side" = true) (k16 : PySem.W.keepIn K (.ref f16) = true)
    (a17 : PySem.W.nsIn K mainGlobals "free_neighbour" = some (some (.ref f17))) (l17 : K.lookup f17 = some ⟨oc17, od17, .func (PySem.W.fnOf "free_neighbour" "free_neighbour" (defArgs sFreeNeighbour) (defBody sFreeNeighbour) (defScope sFreeNeighbour) .none kV17 dc17 pm17 an17 cd17 ct17), sl17⟩) (c17 : PySem.W.codeIn K cd17 "free_neighbour" = true) (k17 : PySem.W.keepIn K (.ref f17) = true)
    (a18 : PySem.W.nsIn K mainGlobals "exits_of" = some (some (.ref f18))) (l18 : K.lookup f18 = some ⟨oc18, od18, .func (PySem.W.fnOf "exits_of" "exits_of" (defArgs sExitsOf) (defBody sExitsOf) (defScope sExitsOf) .none kV18 dc18 pm18 an18 cd18 ct18), sl18⟩) (c18 : PySem.W.codeIn K cd18 "exits_of" = true) (k18 : PySem.W.keepIn K (.ref f18) = true)
    (a19 : PySem.W.nsIn K mainGlobals "greatest_lock" = some (some (.ref f19))) (l19 : K.lookup f19 = some ⟨oc19, od19, .func (PySem.W.fnOf "greatest_lock" "greatest_lock" (defArgs sGreatestLock) (defBody sGreatestLock) (defScope sGreatestLock) .none kV19 dc19 pm19 an19 cd19 ct19), sl19⟩) (c19 : PySem.W.codeIn K cd19 "greatest_lock" = true) (k19 : PySem.W.keepIn K (.ref f19) = true)
    (a20 : PySem.W.nsIn K mainGlobals "is_apart" = some (some (.ref f20))) (l20 : K.lookup f20 = some ⟨oc20, od20, .func (PySem.W.fnOf "is_apart" "is_apart" (defArgs sIsApart) (defBody sIsApart) (defScope sIsApart) .none kV20 dc20 pm20 an20 cd20 ct20), sl20⟩) (c20 : PySem.W.codeIn K cd20 "is_apart" = true) (k20 : PySem.W.keepIn K (.ref f20) = true)
    (a21 : PySem.W.nsIn K mainGlobals "pieces_of" = some (some (.ref f21))) (l21 : K.lookup f21 = some ⟨oc21, od21, .func (PySem.W.fnOf "pieces_of" "pieces_of" (defArgs sPiecesOf) (defBody sPiecesOf) (defScope sPiecesOf) .none kV21 dc21 pm21 an21 cd21 ct21), sl21⟩) (c21 : PySem.W.codeIn K cd21 "pieces_of" = true) (k21 : PySem.W.keepIn K (.ref f21) = true)
    (a22 : PySem.W.nsIn K mainGlobals "lamps_in" = some (some (.ref f22))) (l22 : K.lookup f22 = some ⟨oc22, od22, .func (PySem.W.fnOf "lamps_in" "lamps_in" (defArgs sLampsIn) (defBody sLampsIn) (defScope sLampsIn) .none kV22 dc22 pm22 an22 cd22 ct22), sl22⟩) (c22 : PySem.W.codeIn K cd22 "lamps_in" = true) (k22 : PySem.W.keepIn K (.ref f22) = true)
    (a23 : PySem.W.nsIn K mainGlobals "tree_in" = some (some (.ref f23))) (l23 : K.lookup f23 = some ⟨oc23, od23, .func (PySem.W.fnOf "tree_in" "tree_in" (defArgs sTreeIn) (defBody sTreeIn) (defScope sTreeIn) .none kV23 dc23 pm23 an23 cd23 ct23), sl23⟩) (c23 : PySem.W.codeIn K cd23 "tree_in" = true) (k23 : PySem.W.keepIn K (.ref f23) = true)
    (a24 : PySem.W.nsIn K mainGlobals "without" = some (some (.ref f24))) (l24 : K.lookup f24 = some ⟨oc24, od24, .func (PySem.W.fnOf "without" "without" (defArgs sWithout) (defBody sWithout) (defScope sWithout) .none kV24 dc24 pm24 an24 cd24 ct24), sl24⟩) (c24 : PySem.W.codeIn K cd24 "without" = true) (k24 : PySem.W.keepIn K (.ref f24) = true)
    (a25 : PySem.W.nsIn K mainGlobals "next_leaf" = some (some (.ref f25))) (l25 : K.lookup f25 = some ⟨oc25, od25, .func (PySem.W.fnOf "next_leaf" "next_leaf" (defArgs sNextLeaf) (defBody sNextLeaf) (defScope sNextLeaf) .none kV25 dc25 pm25 an25 cd25 ct25), sl25⟩) (c25 : PySem.W.codeIn K cd25 "next_leaf" = true) (k25 : PySem.W.keepIn K (.ref f25) = true)
    (a26 : PySem.W.nsIn K mainGlobals "normal_steps" = some (some (.ref f26))) (l26 : K.lookup f26 = some ⟨oc26, od26, .func (PySem.W.fnOf "normal_steps" "normal_steps" (defArgs sNormalSteps) (defBody sNormalSteps) (defScope sNormalSteps) .none kV26 dc26 pm26 an26 cd26 ct26), sl26⟩) (c26 : PySem.W.codeIn K cd26 "normal_steps" = true) (k26 : PySem.W.keepIn K (.ref f26) = true)
    (a27 : PySem.W.nsIn K mainGlobals "normal_setting" = some (some (.ref f27))) (l27 : K.lookup f27 = some ⟨oc27, od27, .func (PySem.W.fnOf "normal_setting" "normal_setting" (defArgs sNormalSetting) (defBody sNormalSetting) (defScope sNormalSetting) .none kV27 dc27 pm27 an27 cd27 ct27), sl27⟩) (c27 : PySem.W.codeIn K cd27 "normal_setting" = true) (k27 : PySem.W.keepIn K (.ref f27) = true)
    (a28 : PySem.W.nsIn K mainGlobals "_law_draws" = some (some (.ref f28))) (l28 : K.lookup f28 = some ⟨oc28, od28, .func (PySem.W.fnOf "_law_draws" "_law_draws" (defArgs sLDraws) (defBody sLDraws) (defScope sLDraws) .none kV28 dc28 pm28 an28 cd28 ct28), sl28⟩) (c28 : PySem.W.codeIn K cd28 "_law_draws" = true) (k28 : PySem.W.keepIn K (.ref f28) = true)
    (a29 : PySem.W.nsIn K mainGlobals "_law_next" = some (some (.ref f29))) (l29 : K.lookup f29 = some ⟨oc29, od29, .func (PySem.W.fnOf "_law_next" "_law_next" (defArgs sLNext) (defBody sLNext) (defScope sLNext) .none kV29 dc29 pm29 an29 cd29 ct29), sl29⟩) (c29 : PySem.W.codeIn K cd29 "_law_next" = true) (k29 : PySem.W.keepIn K (.ref f29) = true)
    (a30 : PySem.W.nsIn K mainGlobals "_law_one" = some (some (.ref f30))) (l30 : K.lookup f30 = some ⟨oc30, od30, .func (PySem.W.fnOf "_law_one" "_law_one" (defArgs sLOne) (defBody sLOne) (defScope sLOne) .none kV30 dc30 pm30 an30 cd30 ct30), sl30⟩) (c30 : PySem.W.codeIn K cd30 "_law_one" = true) (k30 : PySem.W.keepIn K (.ref f30) = true)
    (a31 : PySem.W.nsIn K mainGlobals "_law_shuffled" = some (some (.ref f31))) (l31 : K.lookup f31 = some ⟨oc31, od31, .func (PySem.W.fnOf "_law_shuffled" "_law_shuffled" (defArgs sLShuffled) (defBody sLShuffled) (defScope sLShuffled) .none kV31 dc31 pm31 an31 cd31 ct31), sl31⟩) (c31 : PySem.W.codeIn K cd31 "_law_shuffled" = true) (k31 : PySem.W.keepIn K (.ref f31) = true)
    (a32 : PySem.W.nsIn K mainGlobals "_law_forest" = some (some (.ref f32))) (l32 : K.lookup f32 = some ⟨oc32, od32, .func (PySem.W.fnOf "_law_forest" "_law_forest" (defArgs sLForest) (defBody sLForest) (defScope sLForest) .none kV32 dc32 pm32 an32 cd32 ct32), sl32⟩) (c32 : PySem.W.codeIn K cd32 "_law_forest" = true) (k32 : PySem.W.keepIn K (.ref f32) = true)
    (a33 : PySem.W.nsIn K mainGlobals "_law_near" = some (some (.ref f33))) (l33 : K.lookup f33 = some ⟨oc33, od33, .func (PySem.W.fnOf "_law_near" "_law_near" (defArgs sLNear) (defBody sLNear) (defScope sLNear) .none kV33 dc33 pm33 an33 cd33 ct33), sl33⟩) (c33 : PySem.W.codeIn K cd33 "_law_near" = true) (k33 : PySem.W.keepIn K (.ref f33) = true)
    (a34 : PySem.W.nsIn K mainGlobals "_law_setting" = some (some (.ref f34))) (l34 : K.lookup f34 = some ⟨oc34, od34, .func (PySem.W.fnOf "_law_setting" "_law_setting" (defArgs sLSetting) (defBody sLSetting) (defScope sLSetting) .none kV34 dc34 pm34 an34 cd34 ct34), sl34⟩) (c34 : PySem.W.codeIn K cd34 "_law_setting" = true) (k34 : PySem.W.keepIn K (.ref f34) = true)
    (a35 : PySem.W.nsIn K mainGlobals "_law_both" = some (some (.ref f35))) (l35 : K.lookup f35 = some ⟨oc35, od35, .func (PySem.W.fnOf "_law_both" "_law_both" (defArgs sLBoth) (defBody sLBoth) (defScope sLBoth) .none kV35 dc35 pm35 an35 cd35 ct35), sl35⟩) (c35 : PySem.W.codeIn K cd35 "_law_both" = true) (k35 : PySem.W.keepIn K (.ref f35) = true)
    (a36 : PySem.W.nsIn K mainGlobals "_law_right" = some (some (.ref f36))) (l36 : K.lookup f36 = some ⟨oc36, od36, .func (PySem.W.fnOf "_law_right" "_law_right" (defArgs sLRight) (defBody sLRight) (defScope sLRight) .none kV36 dc36 pm36 an36 cd36 ct36), sl36⟩) (c36 : PySem.W.codeIn K cd36 "_law_right" = true) (k36 : PySem.W.keepIn K (.ref f36) = true)
    (a37 : PySem.W.nsIn K mainGlobals "law" = some (some (.ref f37))) (l37 : K.lookup f37 = some ⟨oc37, od37, .func (PySem.W.fnOf "law" "law" (defArgs sLaw) (defBody sLaw) (defScope sLaw) .none kV37 dc37 pm37 an37 cd37 ct37), sl37⟩) (c37 : PySem.W.codeIn K cd37 "law" = true) (k37 : PySem.W.keepIn K (.ref f37) = true)
    {yt0 : Tok} (y0 : PySem.W.nsIn K mainGlobals "MAX_VERTICES" = some (some (.int 12 yt0)))
    (z0 : PySem.W.nsIn K mainGlobals "abs" = some none) (z1 : PySem.W.nsIn K mainGlobals "len" = some none) (z2 : PySem.W.nsIn K mainGlobals "int" = some none) (z3 : PySem.W.nsIn K mainGlobals "list" = some none) (z4 : PySem.W.nsIn K mainGlobals "range" = some none) (z5 : PySem.W.nsIn K mainGlobals "max" = some none) (z6 : PySem.W.nsIn K mainGlobals "min" = some none) (z7 : PySem.W.nsIn K mainGlobals "tuple" = some none) (z8 : PySem.W.nsIn K mainGlobals "sorted" = some none) (z9 : PySem.W.nsIn K mainGlobals "isinstance" = some none) (z10 : PySem.W.nsIn K mainGlobals "bool" = some none) (z11 : PySem.W.nsIn K mainGlobals "any" = some none) (z12 : PySem.W.nsIn K mainGlobals "enumerate" = some none) :
    ∃ fd : FuncData, (∀ (s : Shared) (v : Value), BindsTo s fd ⟨[v], []⟩ [("_law_script", v)]) ∧ ∀ base : Heap, K.In base → base.Ns mainGlobals mg → FnG l.prog w K mg base 8 fa fd ["_law_script"] (spLaw K) := by
  cases hfa.symm.trans (PySem.W.mg_of X G a37)
  have FIsNumber := fun_mk (st := sIsNumber) l0 c0 k0
  have FIsPair := fun_mk (st := sIsPair) l1 c1 k1
  have FMerged := fun_mk (st := sMerged) l2 c2 k2
  have FNeighboursOf := fun_mk (st := sNeighboursOf) l3 c3 k3
  have FPartsOf := fun_mk (st := sPartsOf) l4 c4 k4
  have FBlockingLamps := fun_mk (st := sBlockingLamps) l5 c5 k5
  have FCheckLamp := fun_mk (st := sCheckLamp) l6 c6 k6
  have FSlideLamp := fun_mk (st := sSlideLamp) l7 c7 k7
  have FPossibleSlides := fun_mk (st := sPossibleSlides) l8 c8 k8
  have FIsPossible := fun_mk (st := sIsPossible) l9 c9 k9
  have FFollow := fun_mk (st := sFollow) l10 c10 k10
  have FDistancesFrom := fun_mk (st := sDistancesFrom) l11 c11 k11
  have FClassOf := fun_mk (st := sClassOf) l12 c12 k12
  have FStepsBetween := fun_mk (st := sStepsBetween) l13 c13 k13
  have FCloserSlide := fun_mk (st := sCloserSlide) l14 c14 k14
  have FShortestPlan := fun_mk (st := sShortestPlan) l15 c15 k15
  have FSideBySide := fun_mk (st := sSideBySide) l16 c16 k16
  have FFreeNeighbour := fun_mk (st := sFreeNeighbour) l17 c17 k17
  have FExitsOf := fun_mk (st := sExitsOf) l18 c18 k18
  have FGreatestLock := fun_mk (st := sGreatestLock) l19 c19 k19
  have FIsApart := fun_mk (st := sIsApart) l20 c20 k20
  have FPiecesOf := fun_mk (st := sPiecesOf) l21 c21 k21
  have FLampsIn := fun_mk (st := sLampsIn) l22 c22 k22
  have FTreeIn := fun_mk (st := sTreeIn) l23 c23 k23
  have FWithout := fun_mk (st := sWithout) l24 c24 k24
  have FNextLeaf := fun_mk (st := sNextLeaf) l25 c25 k25
  have FNormalSteps := fun_mk (st := sNormalSteps) l26 c26 k26
  have FNormalSetting := fun_mk (st := sNormalSetting) l27 c27 k27
  have FLDraws := fun_mk (st := sLDraws) l28 c28 k28
  have FLNext := fun_mk (st := sLNext) l29 c29 k29
  have FLOne := fun_mk (st := sLOne) l30 c30 k30
  have FLShuffled := fun_mk (st := sLShuffled) l31 c31 k31
  have FLForest := fun_mk (st := sLForest) l32 c32 k32
  have FLNear := fun_mk (st := sLNear) l33 c33 k33
  have FLSetting := fun_mk (st := sLSetting) l34 c34 k34
  have FLBoth := fun_mk (st := sLBoth) l35 c35 k35
  have FLRight := fun_mk (st := sLRight) l36 c36 k36
  have FLaw := fun_mk (st := sLaw) l37 c37 k37
  have bIsNumber := FIsNumber.binds (ps := ["value"]) fun _ _ _ _ _ _ us hl => match us, hl with | [_], _ => rfl
  have bIsPair := FIsPair.binds (ps := ["value"]) fun _ _ _ _ _ _ us hl => match us, hl with | [_], _ => rfl
  have bMerged := FMerged.binds (ps := ["labels", "a", "b"]) fun _ _ _ _ _ _ us hl => match us, hl with | [_, _, _], _ => rfl
  have bNeighboursOf := FNeighboursOf.binds (ps := ["forest", "vertex"]) fun _ _ _ _ _ _ us hl => match us, hl with | [_, _], _ => rfl
  have bPartsOf := FPartsOf.binds (ps := ["forest", "vertices"]) fun _ _ _ _ _ _ us hl => match us, hl with | [_, _], _ => rfl
  have bBlockingLamps := FBlockingLamps.binds (ps := ["forest", "setting", "u", "v"]) fun _ _ _ _ _ _ us hl => match us, hl with | [_, _, _, _], _ => rfl
  have bCheckLamp := FCheckLamp.binds (ps := ["setting", "value"]) fun _ _ _ _ _ _ us hl => match us, hl with | [_, _], _ => rfl
  have bSlideLamp := FSlideLamp.binds (ps := ["forest", "setting", "u", "v"]) fun _ _ _ _ _ _ us hl => match us, hl with | [_, _, _, _], _ => rfl
  have bPossibleSlides := FPossibleSlides.binds (ps := ["forest", "setting"]) fun _ _ _ _ _ _ us hl => match us, hl with | [_, _], _ => rfl
  have bIsPossible := FIsPossible.binds (ps := ["forest", "setting", "value"]) fun _ _ _ _ _ _ us hl => match us, hl with | [_, _, _], _ => rfl
  have bFollow := FFollow.binds (ps := ["forest", "setting", "slides"]) fun _ _ _ _ _ _ us hl => match us, hl with | [_, _, _], _ => rfl
  have bDistancesFrom := FDistancesFrom.binds (ps := ["forest", "setting"]) fun _ _ _ _ _ _ us hl => match us, hl with | [_, _], _ => rfl
  have bClassOf := FClassOf.binds (ps := ["forest", "setting"]) fun _ _ _ _ _ _ us hl => match us, hl with | [_, _], _ => rfl
  have bStepsBetween := FStepsBetween.binds (ps := ["forest", "first", "second"]) fun _ _ _ _ _ _ us hl => match us, hl with | [_, _, _], _ => rfl
  have bCloserSlide := FCloserSlide.binds (ps := ["forest", "setting", "distances"]) fun _ _ _ _ _ _ us hl => match us, hl with | [_, _, _], _ => rfl
  have bShortestPlan := FShortestPlan.binds (ps := ["forest", "first", "second"]) fun _ _ _ _ _ _ us hl => match us, hl with | [_, _, _], _ => rfl
  have bSideBySide := FSideBySide.binds (ps := ["first", "second"]) fun _ _ _ _ _ _ us hl => match us, hl with | [_, _], _ => rfl
  have bFreeNeighbour := FFreeNeighbour.binds (ps := ["forest", "left", "lamp"]) fun _ _ _ _ _ _ us hl => match us, hl with | [_, _, _], _ => rfl
  have bExitsOf := FExitsOf.binds (ps := ["forest", "setting"]) fun _ _ _ _ _ _ us hl => match us, hl with | [_, _], _ => rfl
  have bGreatestLock := FGreatestLock.binds (ps := ["forest", "setting"]) fun _ _ _ _ _ _ us hl => match us, hl with | [_, _], _ => rfl
  have bIsApart := FIsApart.binds (ps := ["forest", "lock", "vertex"]) fun _ _ _ _ _ _ us hl => match us, hl with | [_, _, _], _ => rfl
  have bPiecesOf := FPiecesOf.binds (ps := ["forest", "lock"]) fun _ _ _ _ _ _ us hl => match us, hl with | [_, _], _ => rfl
  have bLampsIn := FLampsIn.binds (ps := ["setting", "piece"]) fun _ _ _ _ _ _ us hl => match us, hl with | [_, _], _ => rfl
  have bTreeIn := FTreeIn.binds (ps := ["forest", "piece"]) fun _ _ _ _ _ _ us hl => match us, hl with | [_, _], _ => rfl
  have bWithout := FWithout.binds (ps := ["tree", "vertex"]) fun _ _ _ _ _ _ us hl => match us, hl with | [_, _], _ => rfl
  have bNextLeaf := FNextLeaf.binds (ps := ["tree"]) fun _ _ _ _ _ _ us hl => match us, hl with | [_], _ => rfl
  have bNormalSteps := FNormalSteps.binds (ps := ["forest", "piece", "count"]) fun _ _ _ _ _ _ us hl => match us, hl with | [_, _, _], _ => rfl
  have bNormalSetting := FNormalSetting.binds (ps := ["forest", "setting"]) fun _ _ _ _ _ _ us hl => match us, hl with | [_, _], _ => rfl
  have bLDraws := FLDraws.binds (ps := ["_law_script"]) fun _ _ _ _ _ _ us hl => match us, hl with | [_], _ => rfl
  have bLNext := FLNext.binds (ps := ["_law_state", "_law_many"]) fun _ _ _ _ _ _ us hl => match us, hl with | [_, _], _ => rfl
  have bLOne := FLOne.binds (ps := ["_law_state", "_law_items"]) fun _ _ _ _ _ _ us hl => match us, hl with | [_, _], _ => rfl
  have bLShuffled := FLShuffled.binds (ps := ["_law_state", "_law_items"]) fun _ _ _ _ _ _ us hl => match us, hl with | [_, _], _ => rfl
  have bLForest := FLForest.binds (ps := ["_law_state", "_law_least", "_law_most"]) fun _ _ _ _ _ _ us hl => match us, hl with | [_, _, _], _ => rfl
  have bLNear := FLNear.binds (ps := ["_law_forest_here", "_law_vertex"]) fun _ _ _ _ _ _ us hl => match us, hl with | [_, _], _ => rfl
  have bLSetting := FLSetting.binds (ps := ["_law_state", "_law_forest_here"]) fun _ _ _ _ _ _ us hl => match us, hl with | [_, _], _ => rfl
  have bLBoth := FLBoth.binds (ps := ["_law_n", "_law_one_here", "_law_other"]) fun _ _ _ _ _ _ us hl => match us, hl with | [_, _, _], _ => rfl
  have bLRight := FLRight.binds (ps := ["_law_state", "_law_left", "_law_right_here", "_law_one_here", "_law_other"]) fun _ _ _ _ _ _ us hl => match us, hl with | [_, _, _, _, _], _ => rfl
  have m_abs := PySem.W.mg_none_of X G z0
  have m_len := PySem.W.mg_none_of X G z1
  have m_int := PySem.W.mg_none_of X G z2
  have m_list := PySem.W.mg_none_of X G z3
  have m_range := PySem.W.mg_none_of X G z4
  have m_max := PySem.W.mg_none_of X G z5
  have m_min := PySem.W.mg_none_of X G z6
  have m_tuple := PySem.W.mg_none_of X G z7
  have m_sorted := PySem.W.mg_none_of X G z8
  have m_isinstance := PySem.W.mg_none_of X G z9
  have m_bool := PySem.W.mg_none_of X G z10
  have m_any := PySem.W.mg_none_of X G z11
  have m_enumerate := PySem.W.mg_none_of X G z12
  have m_MAX_VERTICES := PySem.W.mg_of X G y0
  refine ⟨PySem.W.fnOf "law" "law" (defArgs sLaw) (defBody sLaw) (defScope sLaw) .none kV37 dc37 pm37 an37 cd37 ct37, fun s v => .of_eq rfl, fun base _ _ => ?_⟩
  have ownIsNumber := fun {k : Nat} {sp : Sp} (G0 : FnOk l.prog w K mg base CX0 k f0 _ _ sp) => (Own.mk ⟨f0, _, G0, PySem.W.mg_of X G a0, k0, bIsNumber⟩ : Own l.prog w K mg base "is_number" k ["value"] sp)
  have ownIsPair := fun {k : Nat} {sp : Sp} (G0 : FnOk l.prog w K mg base CX0 k f1 _ _ sp) => (Own.mk ⟨f1, _, G0, PySem.W.mg_of X G a1, k1, bIsPair⟩ : Own l.prog w K mg base "is_pair" k ["value"] sp)
  have ownMerged := fun {k : Nat} {sp : Sp} (G0 : FnOk l.prog w K mg base CX0 k f2 _ _ sp) => (Own.mk ⟨f2, _, G0, PySem.W.mg_of X G a2, k2, bMerged⟩ : Own l.prog w K mg base "merged" k ["labels", "a", "b"] sp)
  have ownNeighboursOf := fun {k : Nat} {sp : Sp} (G0 : FnOk l.prog w K mg base CX0 k f3 _ _ sp) => (Own.mk ⟨f3, _, G0, PySem.W.mg_of X G a3, k3, bNeighboursOf⟩ : Own l.prog w K mg base "neighbours_of" k ["forest", "vertex"] sp)
  have ownPartsOf := fun {k : Nat} {sp : Sp} (G0 : FnOk l.prog w K mg base CX0 k f4 _ _ sp) => (Own.mk ⟨f4, _, G0, PySem.W.mg_of X G a4, k4, bPartsOf⟩ : Own l.prog w K mg base "parts_of" k ["forest", "vertices"] sp)
  have ownBlockingLamps := fun {k : Nat} {sp : Sp} (G0 : FnOk l.prog w K mg base CX0 k f5 _ _ sp) => (Own.mk ⟨f5, _, G0, PySem.W.mg_of X G a5, k5, bBlockingLamps⟩ : Own l.prog w K mg base "blocking_lamps" k ["forest", "setting", "u", "v"] sp)
  have ownCheckLamp := fun {k : Nat} {sp : Sp} (G0 : FnOk l.prog w K mg base CX0 k f6 _ _ sp) => (Own.mk ⟨f6, _, G0, PySem.W.mg_of X G a6, k6, bCheckLamp⟩ : Own l.prog w K mg base "check_lamp" k ["setting", "value"] sp)
  have ownSlideLamp := fun {k : Nat} {sp : Sp} (G0 : FnOk l.prog w K mg base CX0 k f7 _ _ sp) => (Own.mk ⟨f7, _, G0, PySem.W.mg_of X G a7, k7, bSlideLamp⟩ : Own l.prog w K mg base "slide_lamp" k ["forest", "setting", "u", "v"] sp)
  have ownPossibleSlides := fun {k : Nat} {sp : Sp} (G0 : FnOk l.prog w K mg base CX0 k f8 _ _ sp) => (Own.mk ⟨f8, _, G0, PySem.W.mg_of X G a8, k8, bPossibleSlides⟩ : Own l.prog w K mg base "possible_slides" k ["forest", "setting"] sp)
  have ownIsPossible := fun {k : Nat} {sp : Sp} (G0 : FnOk l.prog w K mg base CX0 k f9 _ _ sp) => (Own.mk ⟨f9, _, G0, PySem.W.mg_of X G a9, k9, bIsPossible⟩ : Own l.prog w K mg base "is_possible" k ["forest", "setting", "value"] sp)
  have ownFollow := fun {k : Nat} {sp : Sp} (G0 : FnOk l.prog w K mg base CX0 k f10 _ _ sp) => (Own.mk ⟨f10, _, G0, PySem.W.mg_of X G a10, k10, bFollow⟩ : Own l.prog w K mg base "follow" k ["forest", "setting", "slides"] sp)
  have ownDistancesFrom := fun {k : Nat} {sp : Sp} (G0 : FnOk l.prog w K mg base CX0 k f11 _ _ sp) => (Own.mk ⟨f11, _, G0, PySem.W.mg_of X G a11, k11, bDistancesFrom⟩ : Own l.prog w K mg base "distances_from" k ["forest", "setting"] sp)
  have ownClassOf := fun {k : Nat} {sp : Sp} (G0 : FnOk l.prog w K mg base CX0 k f12 _ _ sp) => (Own.mk ⟨f12, _, G0, PySem.W.mg_of X G a12, k12, bClassOf⟩ : Own l.prog w K mg base "class_of" k ["forest", "setting"] sp)
  have ownStepsBetween := fun {k : Nat} {sp : Sp} (G0 : FnOk l.prog w K mg base CX0 k f13 _ _ sp) => (Own.mk ⟨f13, _, G0, PySem.W.mg_of X G a13, k13, bStepsBetween⟩ : Own l.prog w K mg base "steps_between" k ["forest", "first", "second"] sp)
  have ownCloserSlide := fun {k : Nat} {sp : Sp} (G0 : FnOk l.prog w K mg base CX0 k f14 _ _ sp) => (Own.mk ⟨f14, _, G0, PySem.W.mg_of X G a14, k14, bCloserSlide⟩ : Own l.prog w K mg base "closer_slide" k ["forest", "setting", "distances"] sp)
  have ownShortestPlan := fun {k : Nat} {sp : Sp} (G0 : FnOk l.prog w K mg base CX0 k f15 _ _ sp) => (Own.mk ⟨f15, _, G0, PySem.W.mg_of X G a15, k15, bShortestPlan⟩ : Own l.prog w K mg base "shortest_plan" k ["forest", "first", "second"] sp)
  have ownSideBySide := fun {k : Nat} {sp : Sp} (G0 : FnOk l.prog w K mg base CX0 k f16 _ _ sp) => (Own.mk ⟨f16, _, G0, PySem.W.mg_of X G a16, k16, bSideBySide⟩ : Own l.prog w K mg base "side_by_side" k ["first", "second"] sp)
  have ownFreeNeighbour := fun {k : Nat} {sp : Sp} (G0 : FnOk l.prog w K mg base CX0 k f17 _ _ sp) => (Own.mk ⟨f17, _, G0, PySem.W.mg_of X G a17, k17, bFreeNeighbour⟩ : Own l.prog w K mg base "free_neighbour" k ["forest", "left", "lamp"] sp)
  have ownExitsOf := fun {k : Nat} {sp : Sp} (G0 : FnOk l.prog w K mg base CX0 k f18 _ _ sp) => (Own.mk ⟨f18, _, G0, PySem.W.mg_of X G a18, k18, bExitsOf⟩ : Own l.prog w K mg base "exits_of" k ["forest", "setting"] sp)
  have ownGreatestLock := fun {k : Nat} {sp : Sp} (G0 : FnOk l.prog w K mg base CX0 k f19 _ _ sp) => (Own.mk ⟨f19, _, G0, PySem.W.mg_of X G a19, k19, bGreatestLock⟩ : Own l.prog w K mg base "greatest_lock" k ["forest", "setting"] sp)
  have ownIsApart := fun {k : Nat} {sp : Sp} (G0 : FnOk l.prog w K mg base CX0 k f20 _ _ sp) => (Own.mk ⟨f20, _, G0, PySem.W.mg_of X G a20, k20, bIsApart⟩ : Own l.prog w K mg base "is_apart" k ["forest", "lock", "vertex"] sp)
  have ownPiecesOf := fun {k : Nat} {sp : Sp} (G0 : FnOk l.prog w K mg base CX0 k f21 _ _ sp) => (Own.mk ⟨f21, _, G0, PySem.W.mg_of X G a21, k21, bPiecesOf⟩ : Own l.prog w K mg base "pieces_of" k ["forest", "lock"] sp)
  have ownLampsIn := fun {k : Nat} {sp : Sp} (G0 : FnOk l.prog w K mg base CX0 k f22 _ _ sp) => (Own.mk ⟨f22, _, G0, PySem.W.mg_of X G a22, k22, bLampsIn⟩ : Own l.prog w K mg base "lamps_in" k ["setting", "piece"] sp)
  have ownTreeIn := fun {k : Nat} {sp : Sp} (G0 : FnOk l.prog w K mg base CX0 k f23 _ _ sp) => (Own.mk ⟨f23, _, G0, PySem.W.mg_of X G a23, k23, bTreeIn⟩ : Own l.prog w K mg base "tree_in" k ["forest", "piece"] sp)
  have ownWithout := fun {k : Nat} {sp : Sp} (G0 : FnOk l.prog w K mg base CX0 k f24 _ _ sp) => (Own.mk ⟨f24, _, G0, PySem.W.mg_of X G a24, k24, bWithout⟩ : Own l.prog w K mg base "without" k ["tree", "vertex"] sp)
  have ownNextLeaf := fun {k : Nat} {sp : Sp} (G0 : FnOk l.prog w K mg base CX0 k f25 _ _ sp) => (Own.mk ⟨f25, _, G0, PySem.W.mg_of X G a25, k25, bNextLeaf⟩ : Own l.prog w K mg base "next_leaf" k ["tree"] sp)
  have ownNormalSteps := fun {k : Nat} {sp : Sp} (G0 : FnOk l.prog w K mg base CX0 k f26 _ _ sp) => (Own.mk ⟨f26, _, G0, PySem.W.mg_of X G a26, k26, bNormalSteps⟩ : Own l.prog w K mg base "normal_steps" k ["forest", "piece", "count"] sp)
  have ownNormalSetting := fun {k : Nat} {sp : Sp} (G0 : FnOk l.prog w K mg base CX0 k f27 _ _ sp) => (Own.mk ⟨f27, _, G0, PySem.W.mg_of X G a27, k27, bNormalSetting⟩ : Own l.prog w K mg base "normal_setting" k ["forest", "setting"] sp)
  have ownLDraws := fun {k : Nat} {sp : Sp} (G0 : FnOk l.prog w K mg base CX0 k f28 _ _ sp) => (Own.mk ⟨f28, _, G0, PySem.W.mg_of X G a28, k28, bLDraws⟩ : Own l.prog w K mg base "_law_draws" k ["_law_script"] sp)
  have ownLNext := fun {k : Nat} {sp : Sp} (G0 : FnOk l.prog w K mg base CX0 k f29 _ _ sp) => (Own.mk ⟨f29, _, G0, PySem.W.mg_of X G a29, k29, bLNext⟩ : Own l.prog w K mg base "_law_next" k ["_law_state", "_law_many"] sp)
  have ownLOne := fun {k : Nat} {sp : Sp} (G0 : FnOk l.prog w K mg base CX0 k f30 _ _ sp) => (Own.mk ⟨f30, _, G0, PySem.W.mg_of X G a30, k30, bLOne⟩ : Own l.prog w K mg base "_law_one" k ["_law_state", "_law_items"] sp)
  have ownLShuffled := fun {k : Nat} {sp : Sp} (G0 : FnOk l.prog w K mg base CX0 k f31 _ _ sp) => (Own.mk ⟨f31, _, G0, PySem.W.mg_of X G a31, k31, bLShuffled⟩ : Own l.prog w K mg base "_law_shuffled" k ["_law_state", "_law_items"] sp)
  have ownLForest := fun {k : Nat} {sp : Sp} (G0 : FnOk l.prog w K mg base CX0 k f32 _ _ sp) => (Own.mk ⟨f32, _, G0, PySem.W.mg_of X G a32, k32, bLForest⟩ : Own l.prog w K mg base "_law_forest" k ["_law_state", "_law_least", "_law_most"] sp)
  have ownLNear := fun {k : Nat} {sp : Sp} (G0 : FnOk l.prog w K mg base CX0 k f33 _ _ sp) => (Own.mk ⟨f33, _, G0, PySem.W.mg_of X G a33, k33, bLNear⟩ : Own l.prog w K mg base "_law_near" k ["_law_forest_here", "_law_vertex"] sp)
  have ownLSetting := fun {k : Nat} {sp : Sp} (G0 : FnOk l.prog w K mg base CX0 k f34 _ _ sp) => (Own.mk ⟨f34, _, G0, PySem.W.mg_of X G a34, k34, bLSetting⟩ : Own l.prog w K mg base "_law_setting" k ["_law_state", "_law_forest_here"] sp)
  have ownLBoth := fun {k : Nat} {sp : Sp} (G0 : FnOk l.prog w K mg base CX0 k f35 _ _ sp) => (Own.mk ⟨f35, _, G0, PySem.W.mg_of X G a35, k35, bLBoth⟩ : Own l.prog w K mg base "_law_both" k ["_law_n", "_law_one_here", "_law_other"] sp)
  have ownLRight := fun {k : Nat} {sp : Sp} (G0 : FnOk l.prog w K mg base CX0 k f36 _ _ sp) => (Own.mk ⟨f36, _, G0, PySem.W.mg_of X G a36, k36, bLRight⟩ : Own l.prog w K mg base "_law_right" k ["_law_state", "_law_left", "_law_right_here", "_law_one_here", "_law_other"] sp)
  have oLNext := ownLNext (ok_LNext (k := 0) FLNext m_len)
  have oLDraws := ownLDraws (ok_LDraws (k := 0) FLDraws m_abs m_int m_len)
  have oLShuffled := ownLShuffled (ok_LShuffled FLShuffled m_list m_len oLNext)
  have oLForest := ownLForest (ok_LForest FLForest m_list m_range m_max m_min m_tuple m_sorted oLNext oLShuffled)
  have oLNear := ownLNear (ok_LNear (k := 0) FLNear)
  have oLSetting := ownLSetting (ok_LSetting FLSetting m_list m_range m_tuple m_sorted m_len oLNext oLShuffled oLNear)
  have oLOne := ownLOne (ok_LOne FLOne m_len oLNext)
  have oIsNumber := ownIsNumber (ok_IsNumber (k := 0) FIsNumber m_isinstance m_int m_bool)
  have oNeighboursOf := ownNeighboursOf (ok_NeighboursOf (k := 0) FNeighboursOf m_tuple)
  have oBlockingLamps := ownBlockingLamps (ok_BlockingLamps (k := 0) FBlockingLamps m_tuple oNeighboursOf)
  have oFreeNeighbour := ownFreeNeighbour (ok_FreeNeighbour FFreeNeighbour oNeighboursOf oBlockingLamps)
  have oExitsOf := ownExitsOf (ok_ExitsOf FExitsOf m_tuple oFreeNeighbour)
  have oGreatestLock := ownGreatestLock (ok_GreatestLock FGreatestLock m_tuple oExitsOf)
  have oMerged := ownMerged (ok_Merged (k := 0) FMerged)
  have oPartsOf := ownPartsOf (ok_PartsOf FPartsOf m_tuple m_sorted oMerged)
  have oIsApart := ownIsApart (ok_IsApart FIsApart m_any oNeighboursOf)
  have oPiecesOf := ownPiecesOf (ok_PiecesOf FPiecesOf m_range m_tuple oIsApart oPartsOf)
  have oLampsIn := ownLampsIn (ok_LampsIn (k := 0) FLampsIn m_tuple)
  have oCheckLamp := ownCheckLamp (ok_CheckLamp FCheckLamp oIsNumber)
  have oSlideLamp := ownSlideLamp (ok_SlideLamp FSlideLamp m_tuple m_sorted oIsNumber oCheckLamp oNeighboursOf oBlockingLamps)
  have oPossibleSlides := ownPossibleSlides (ok_PossibleSlides FPossibleSlides m_tuple oNeighboursOf oBlockingLamps)
  have oDistancesFrom := ownDistancesFrom (ok_DistancesFrom FDistancesFrom oPossibleSlides oSlideLamp)
  have oClassOf := ownClassOf (ok_ClassOf FClassOf m_tuple m_sorted m_list oDistancesFrom)
  have oIsPair := ownIsPair (ok_IsPair (k := 0) FIsPair m_isinstance m_tuple m_len)
  have oIsPossible := ownIsPossible (ok_IsPossible FIsPossible oIsPair oIsNumber oPossibleSlides)
  have oFollow := ownFollow (ok_Follow FFollow m_isinstance m_tuple m_enumerate oIsPossible oSlideLamp)
  have oCloserSlide := ownCloserSlide (ok_CloserSlide FCloserSlide oPossibleSlides oSlideLamp)
  have oShortestPlan := ownShortestPlan (ok_ShortestPlan FShortestPlan m_tuple oDistancesFrom oCloserSlide oSlideLamp)
  have oStepsBetween := ownStepsBetween (ok_StepsBetween FStepsBetween oDistancesFrom)
  have oTreeIn := ownTreeIn (ok_TreeIn (k := 0) FTreeIn m_tuple)
  have oWithout := ownWithout (ok_Without (k := 0) FWithout m_tuple)
  have oNextLeaf := ownNextLeaf (ok_NextLeaf FNextLeaf m_range m_len oNeighboursOf)
  have oNormalSteps := ownNormalSteps (ok_NormalSteps FNormalSteps m_len oTreeIn oNextLeaf oWithout oNeighboursOf)
  have oNormalSetting := ownNormalSetting (ok_NormalSetting FNormalSetting m_len m_list m_tuple m_sorted oGreatestLock oPiecesOf oLampsIn oNormalSteps)
  have oSideBySide := ownSideBySide (ok_SideBySide (k := 0) FSideBySide m_tuple m_MAX_VERTICES)
  have oLBoth := ownLBoth (ok_LBoth (k := 0) FLBoth m_tuple)
  have oLRight := ownLRight (ok_LRight FLRight m_tuple m_list m_sorted m_len (PySem.W.mg_of X G a19) (PySem.W.mg_of X G a27) (fun_ne FGreatestLock FNormalSetting (by decide)) ⟨_, _, (ok_GreatestLock FGreatestLock m_tuple oExitsOf).mono (by decide), k19, bGreatestLock⟩ ⟨_, _, (ok_NormalSetting FNormalSetting m_len m_list m_tuple m_sorted oGreatestLock oPiecesOf oLampsIn oNormalSteps).mono (by decide), k27, bNormalSetting⟩ oSideBySide oLBoth oClassOf oLOne oStepsBetween oShortestPlan oFollow)
  exact ok_Law FLaw m_range oLDraws oLForest oLSetting oLRight
end TL
open PySem PySem.W PyProof.Rows
set_option maxHeartbeats 0 in
theorem PySem.Challenge.cw_treelamps_k45_whole_side_by_side_holds : PySem.Challenge.rw_treelamps_k45_whole_side_by_side.Holds := by
  w_on; o_law; k_head; (case hw => w_witness2)
  k_fill
  refine TL.walk_ofG (l := PySem.Challenge.rw_treelamps_k45_whole_side_by_side) (n := 63) (k := 8) (x := "_law_script") (sp := fun w => TL.spLaw _) rfl (by decide) rfl ⟨rfl, by decide, by decide⟩
    (fun w h Y => PySem.W.kIn_of Y) ?F (fun _ _ a ns hl _ hS => ⟨a, ns, rfl, hS, hl, fun _ => rfl⟩)
  case F =>
    intro w mg fa h KX G hmg
    refine' TL.all_mk KX G hmg ?a0 ?l0 ?c0 ?k0 ?a1 ?l1 ?c1 ?k1 ?a2 ?l2 ?c2 ?k2 ?a3 ?l3 ?c3 ?k3 ?a4 ?l4 ?c4 ?k4 ?a5 ?l5 ?c5 ?k5 ?a6 ?l6 ?c6 ?k6 ?a7 ?l7 ?c7 ?k7 ?a8 ?l8 ?c8 ?k8 ?a9 ?l9 ?c9 ?k9 ?a10 ?l10 ?c10 ?k10 ?a11 ?l11 ?c11 ?k11 ?a12 ?l12 ?c12 ?k12 ?a13 ?l13 ?c13 ?k13 ?a14 ?l14 ?c14 ?k14 ?a15 ?l15 ?c15 ?k15 ?a16 ?l16 ?c16 ?k16 ?a17 ?l17 ?c17 ?k17 ?a18 ?l18 ?c18 ?k18 ?a19 ?l19 ?c19 ?k19 ?a20 ?l20 ?c20 ?k20 ?a21 ?l21 ?c21 ?k21 ?a22 ?l22 ?c22 ?k22 ?a23 ?l23 ?c23 ?k23 ?a24 ?l24 ?c24 ?k24 ?a25 ?l25 ?c25 ?k25 ?a26 ?l26 ?c26 ?k26 ?a27 ?l27 ?c27 ?k27 ?a28 ?l28 ?c28 ?k28 ?a29 ?l29 ?c29 ?k29 ?a30 ?l30 ?c30 ?k30 ?a31 ?l31 ?c31 ?k31 ?a32 ?l32 ?c32 ?k32 ?a33 ?l33 ?c33 ?k33 ?a34 ?l34 ?c34 ?k34 ?a35 ?l35 ?c35 ?k35 ?a36 ?l36 ?c36 ?k36 ?a37 ?l37 ?c37 ?k37 ?y0 ?z0 ?z1 ?z2 ?z3 ?z4 ?z5 ?z6 ?z7 ?z8 ?z9 ?z10 ?z11 ?z12
    (case a0 => k_is); (case l0 => k_is); (case c0 => k_is); (case k0 => k_is); (case a1 => k_is); (case l1 => k_is); (case c1 => k_is); (case k1 => k_is); (case a2 => k_is); (case l2 => k_is); (case c2 => k_is); (case k2 => k_is); (case a3 => k_is); (case l3 => k_is); (case c3 => k_is); (case k3 => k_is); (case a4 => k_is); (case l4 => k_is); (case c4 => k_is); (case k4 => k_is); (case a5 => k_is); (case l5 => k_is); (case c5 => k_is); (case k5 => k_is); (case a6 => k_is); (case l6 => k_is); (case c6 => k_is); (case k6 => k_is); (case a7 => k_is); (case l7 => k_is); (case c7 => k_is); (case k7 => k_is); (case a8 => k_is); (case l8 => k_is); (case c8 => k_is); (case k8 => k_is); (case a9 => k_is); (case l9 => k_is); (case c9 => k_is); (case k9 => k_is); (case a10 => k_is); (case l10 => k_is); (case c10 => k_is); (case k10 => k_is); (case a11 => k_is); (case l11 => k_is); (case c11 => k_is); (case k11 => k_is); (case a12 => k_is); (case l12 => k_is); (case c12 => k_is); (case k12 => k_is); (case a13 => k_is); (case l13 => k_is); (case c13 => k_is); (case k13 => k_is); (case a14 => k_is); (case l14 => k_is); (case c14 => k_is); (case k14 => k_is); (case a15 => k_is); (case l15 => k_is); (case c15 => k_is); (case k15 => k_is); (case a16 => k_is); (case l16 => k_is); (case c16 => k_is); (case k16 => k_is); (case a17 => k_is); (case l17 => k_is); (case c17 => k_is); (case k17 => k_is); (case a18 => k_is); (case l18 => k_is); (case c18 => k_is); (case k18 => k_is); (case a19 => k_is); (case l19 => k_is); (case c19 => k_is); (case k19 => k_is); (case a20 => k_is); (case l20 => k_is); (case c20 => k_is); (case k20 => k_is); (case a21 => k_is); (case l21 => k_is); (case c21 => k_is); (case k21 => k_is); (case a22 => k_is); (case l22 => k_is); (case c22 => k_is); (case k22 => k_is); (case a23 => k_is); (case l23 => k_is); (case c23 => k_is); (case k23 => k_is); (case a24 => k_is); (case l24 => k_is); (case c24 => k_is); (case k24 => k_is); (case a25 => k_is); (case l25 => k_is); (case c25 => k_is); (case k25 => k_is); (case a26 => k_is); (case l26 => k_is); (case c26 => k_is); (case k26 => k_is); (case a27 => k_is); (case l27 => k_is); (case c27 => k_is); (case k27 => k_is); (case a28 => k_is); (case l28 => k_is); (case c28 => k_is); (case k28 => k_is); (case a29 => k_is); (case l29 => k_is); (case c29 => k_is); (case k29 => k_is); (case a30 => k_is); (case l30 => k_is); (case c30 => k_is); (case k30 => k_is); (case a31 => k_is); (case l31 => k_is); (case c31 => k_is); (case k31 => k_is); (case a32 => k_is); (case l32 => k_is); (case c32 => k_is); (case k32 => k_is); (case a33 => k_is); (case l33 => k_is); (case c33 => k_is); (case k33 => k_is); (case a34 => k_is); (case l34 => k_is); (case c34 => k_is); (case k34 => k_is); (case a35 => k_is); (case l35 => k_is); (case c35 => k_is); (case k35 => k_is); (case a36 => k_is); (case l36 => k_is); (case c36 => k_is); (case k36 => k_is); (case a37 => k_is); (case l37 => k_is); (case c37 => k_is); (case k37 => k_is); (case y0 => k_is); (case z0 => k_is); (case z1 => k_is); (case z2 => k_is); (case z3 => k_is); (case z4 => k_is); (case z5 => k_is); (case z6 => k_is); (case z7 => k_is); (case z8 => k_is); (case z9 => k_is); (case z10 => k_is); (case z11 => k_is); (case z12 => k_is)
