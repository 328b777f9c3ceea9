import PyProof.Rows.All
import Wide.All
import OpenK.AllK
import Wide.FinOn
import Open.SpecLaws
import KE.OsGo
import HandS.ForSpec
import HandS.ForMost
import HandS.More
import HandS.Flow
import HandS.Walk
import HandS.WideBits
import PySem.Challenge.RW_gatenets_s01_check
set_option Elab.async false
set_option maxRecDepth 100000
set_option maxHeartbeats 8000000
namespace GN
section
variable {α : Type} [DecidableEq α]
theorem nodup_le : ∀ {l m : List α}, l.Nodup → (∀ x ∈ l, x ∈ m) → l.length ≤ m.length
  | [], _, _, _ => Nat.zero_le _
  | a :: l, m, hn, hs => by
    have ha : a ∈ m := hs a List.mem_cons_self
    have hn' := List.nodup_cons.mp hn
    have ih := nodup_le (l := l) (m := m.erase a) hn'.2 (fun x hx => (List.mem_erase_of_ne (a := x) (b := a) (by intro e; subst e; exact hn'.1 hx)).mpr (hs x (List.mem_cons_of_mem _ hx)))
    rw [List.length_erase_of_mem ha] at ih
    have hp : 0 < m.length := List.length_pos_of_mem ha
    rw [List.length_cons]
    omega
theorem nodup_full {l m : List α} (hn : l.Nodup) (hs : ∀ x ∈ l, x ∈ m) (hl : m.length ≤ l.length) : ∀ x ∈ m, x ∈ l := by
  intro x hx
  by_cases h : x ∈ l
  · exact h
  · have := nodup_le (l := x :: l) (m := m) (List.nodup_cons.mpr ⟨h, hn⟩) (fun y hy => by
      rcases List.mem_cons.mp hy with e | e
      · exact e ▸ hx
      · exact hs y e)
    rw [List.length_cons] at this
    omega

/-- what is still awaited -/
def open_ (order : List α) (l : List α) : Nat := (l.filter fun s => decide (s ∉ order)).length
theorem open_snoc {order : List α} {d : α} (hd : d ∉ order) : ∀ l : List α, open_ order l = open_ (order ++ [d]) l + l.count d
  | [] => rfl
  | a :: l => by
    have ih := open_snoc hd l
    unfold open_ at ih ⊢
    by_cases h1 : a = d
    · subst h1
      simp only [List.filter_cons, List.mem_append, List.mem_singleton, hd, not_false_eq_true, decide_true, if_true, List.length_cons, List.count_cons_self, or_true, not_true_eq_false, decide_false, Bool.false_eq_true, if_false]
      simp only [List.mem_append, List.mem_singleton] at ih
      omega
    · have h2 : (a == d) = false := by simpa using h1
      by_cases h3 : a ∈ order
      · simp only [List.filter_cons, List.mem_append, List.mem_singleton, h3, not_true_eq_false, decide_false, Bool.false_eq_true, if_false, true_or, List.count_cons, h2, Nat.add_zero]
        simp only [List.mem_append, List.mem_singleton] at ih
        exact ih
      · simp only [List.filter_cons, List.mem_append, List.mem_singleton, h3, h1, or_self, not_false_eq_true, decide_true, if_true, List.length_cons, List.count_cons, h2, Bool.false_eq_true, if_false, Nat.add_zero]
        simp only [List.mem_append, List.mem_singleton] at ih
        omega
theorem open_zero {order l : List α} (h : open_ order l = 0) : ∀ s ∈ l, s ∈ order := by
  intro s hs
  unfold open_ at h
  have e := List.eq_nil_of_length_eq_zero h
  rw [List.filter_eq_nil_iff] at e
  have := e s hs
  simpa using this
theorem open_all {order l : List α} (h : ∀ s ∈ l, s ∈ order) : open_ order l = 0 := by
  unfold open_
  rw [List.filter_eq_nil_iff.mpr]
  · rfl
  · intro s hs
    simp [h s hs]
theorem open_nil (l : List α) : open_ [] l = l.length := by
  unfold open_
  rw [List.filter_eq_self.mpr]
  intro a _
  simp

/-- who takes s: each as often as it does -/
def tk (gs : List α) (aw : α → List α) (s : α) : List α := gs.flatMap fun g => List.replicate ((aw g).count s) g
theorem tk_mem {gs : List α} {aw : α → List α} {s t : α} (h : t ∈ tk gs aw s) : t ∈ gs := by
  unfold tk at h
  obtain ⟨g, hg, ht⟩ := List.mem_flatMap.mp h
  rw [(List.mem_replicate.mp ht).2]
  exact hg
theorem tk_count {aw : α → List α} {s : α} : ∀ {gs : List α} {g : α}, gs.Nodup → g ∈ gs → (tk gs aw s).count g = (aw g).count s
  | [], _, _, h => by cases h
  | x :: gs, g, hn, h => by
    have hn' := List.nodup_cons.mp hn
    have e : tk (x :: gs) aw s = List.replicate ((aw x).count s) x ++ tk gs aw s := rfl
    rw [e, List.count_append, List.count_replicate]
    by_cases hx : x = g
    · subst hx
      have z : (tk gs aw s).count x = 0 := List.count_eq_zero.mpr fun hm => hn'.1 (tk_mem hm)
      simp [z]
    · have hg : g ∈ gs := by
        rcases List.mem_cons.mp h with e | e
        · exact absurd e.symm hx
        · exact e
      have hb : (x == g) = false := by simpa using hx
      rw [hb, tk_count hn'.2 hg]
      simp

structure KInv (gs : List α) (aw : α → List α) (order ready : List α) (w : α → Nat) (rest : List α) : Prop where
  nd : (order ++ ready).Nodup
  sub : ∀ x ∈ order ++ ready, x ∈ gs
  wt : ∀ g ∈ gs, w g = open_ order (aw g) + rest.count g
  zero : ∀ g ∈ gs, (g ∈ order ++ ready ↔ w g = 0)
  top : ∀ p g, order[p]? = some g → ∀ s ∈ aw g, s ∈ order.take p

theorem KInv.start {gs : List α} {aw : α → List α} (hn : gs.Nodup) : KInv gs aw [] (gs.filter fun g => decide (((aw g).length : Int) = 0)) (fun g => (aw g).length) [] := by
  refine ⟨?_, ?_, ?_, ?_, ?_⟩
  · rw [List.nil_append]
    exact List.Nodup.sublist List.filter_sublist hn
  · intro x hx
    rw [List.nil_append] at hx
    exact (List.mem_filter.mp hx).1
  · intro g _
    rw [open_nil]
    simp
  · intro g hg
    rw [List.nil_append, List.mem_filter]
    simp only [hg, true_and, decide_eq_true_eq]
    omega
  · intro p g h
    simp at h
theorem KInv.pop {gs : List α} {aw : α → List α} {order ready : List α} {d : α} {w : α → Nat} (hn : gs.Nodup) (k : KInv gs aw order (ready ++ [d]) w []) : d ∈ gs ∧ KInv gs aw (order ++ [d]) ready w (tk gs aw d) := by
  have hd : d ∈ gs := k.sub d (by simp)
  have nd := k.nd
  have hdo : d ∉ order := fun h => by
    rw [List.nodup_append] at nd
    exact nd.2.2 d h d (by simp) rfl
  refine ⟨hd, ?_, ?_, ?_, ?_, ?_⟩
  · rw [← List.append_assoc] at nd
    rw [List.append_assoc]
    have pm : (order ++ ready ++ [d]).Perm (order ++ ([d] ++ ready)) := by
      rw [List.append_assoc]
      exact List.Perm.append_left _ (List.perm_append_comm)
    exact pm.nodup_iff.mp nd
  · intro x hx
    refine k.sub x ?_
    simp only [List.mem_append, List.mem_singleton] at hx ⊢
    rcases hx with (h | h) | h
    · exact .inl h
    · exact .inr (.inr h)
    · exact .inr (.inl h)
  · intro g hg
    rw [k.wt g hg, tk_count hn hg, open_snoc hdo]
    simp
  · intro g hg
    rw [← k.zero g hg]
    simp only [List.mem_append, List.mem_singleton]
    constructor
    · rintro ((h | h) | h)
      · exact .inl h
      · exact .inr (.inr h)
      · exact .inr (.inl h)
    · rintro (h | h | h)
      · exact .inl (.inl h)
      · exact .inr h
      · exact .inl (.inr h)
  · intro p g hp s hs
    by_cases hlt : p < order.length
    · rw [List.getElem?_append_left hlt] at hp
      rw [List.take_append_of_le_length (Nat.le_of_lt hlt)]
      exact k.top p g hp s hs
    · have hle : order.length ≤ p := by omega
      rw [List.getElem?_append_right hle] at hp
      have hp0 : p - order.length = 0 := by
        cases q : p - order.length with
        | zero => rfl
        | succ m => rw [q] at hp; simp at hp
      have hpe : p = order.length := by omega
      rw [hp0] at hp
      have hg : d = g := by simpa using hp
      subst hg
      subst hpe
      rw [List.take_left]
      have w0 : w d = 0 := (k.zero d hd).mp (by simp)
      have := k.wt d hd
      rw [w0] at this
      exact open_zero (by simpa using this.symm) s hs
theorem KInv.step {gs : List α} {aw : α → List α} {order ready rest : List α} {t : α} {w : α → Nat} (ht : t ∈ gs) (k : KInv gs aw order ready w (t :: rest)) :
    1 ≤ w t ∧ KInv gs aw order (if w t - 1 = 0 then ready ++ [t] else ready) (fun x => if x = t then w t - 1 else w x) rest := by
  have wt := k.wt t ht
  rw [List.count_cons_self] at wt
  have w1 : 1 ≤ w t := by omega
  have tn : t ∉ order ++ ready := fun h => by
    have := (k.zero t ht).mp h
    omega
  refine ⟨w1, ?_, ?_, ?_, ?_, k.top⟩
  · split
    · rw [← List.append_assoc, List.nodup_append]
      refine ⟨k.nd, by simp, fun a ha b hb e => ?_⟩
      rw [List.mem_singleton] at hb
      subst hb
      subst e
      exact tn ha
    · exact k.nd
  · intro x hx
    split at hx
    · rw [← List.append_assoc] at hx
      rcases List.mem_append.mp hx with h | h
      · exact k.sub x h
      · rw [List.mem_singleton.mp h]
        exact ht
    · exact k.sub x hx
  · intro g hg
    by_cases e : g = t
    · subst e
      rw [if_pos rfl]
      omega
    · rw [if_neg e, k.wt g hg, List.count_cons]
      have hb : (t == g) = false := by simpa using fun z => e z.symm
      rw [hb]
      simp
  · intro g hg
    by_cases e : g = t
    · subst e
      rw [if_pos rfl]
      constructor
      · intro h
        split at h
        · assumption
        · exact absurd h tn
      · intro h
        rw [if_pos h]
        simp
    · rw [if_neg e, ← k.zero g hg]
      split
      · simp [e]
      · exact Iff.rfl
theorem KInv.most {gs : List α} {aw : α → List α} {order ready rest : List α} {w : α → Nat} (k : KInv gs aw order ready w rest) : order.length + ready.length ≤ gs.length := by
  have := nodup_le k.nd k.sub
  rw [List.length_append] at this
  exact this
/-- by way of no rank a circle -/
def Ranked (gs : List α) (aw : α → List α) : Prop := ∃ r : α → Nat, (∀ g ∈ gs, r g < gs.length) ∧ ∀ g ∈ gs, ∀ s ∈ aw g, r s < r g
theorem KInv.ranked {gs : List α} {aw : α → List α} {order : List α} {w : α → Nat} (k : KInv gs aw order [] w []) (h : ¬ order.length < gs.length) : Ranked gs aw := by
  have nd := k.nd
  have sub := k.sub
  rw [List.append_nil] at nd sub
  have full := nodup_full nd sub (by omega)
  have hlen : order.length ≤ gs.length := nodup_le nd sub
  refine ⟨fun g => order.idxOf g, fun g hg => ?_, fun g hg s hs => ?_⟩
  · exact Nat.lt_of_lt_of_le (List.idxOf_lt_length_iff.mpr (full g hg)) hlen
  · have hlt := List.idxOf_lt_length_iff.mpr (full g hg)
    have e : order[order.idxOf g]? = some g := by
      rw [List.getElem?_eq_getElem hlt, List.getElem_idxOf hlt]
    have m := k.top _ _ e s hs
    obtain ⟨j, hj, hjs⟩ := List.mem_take_iff_getElem.mp m
    have hj' : j < order.idxOf g := by omega
    have hle : order.idxOf s ≤ j := by
      rcases Nat.lt_or_ge j (order.idxOf s) with h | h
      · have z := List.not_of_lt_findIdx (p := (· == s)) (xs := order) h
        have q : order[j]'(by omega) = s := hjs
        simp [q] at z
      · exact h
    exact Nat.lt_of_le_of_lt hle hj'
theorem KInv.complete {gs : List α} {aw : α → List α} {order : List α} {w : α → Nat} (k : KInv gs aw order [] w []) (hn : gs.Nodup) (hs : ∀ g ∈ gs, ∀ s ∈ aw g, s ∈ gs) (r : α → Nat) (hr : ∀ g ∈ gs, ∀ s ∈ aw g, r s < r g) : ¬ order.length < gs.length := by
  have all : ∀ m g, g ∈ gs → r g < m → g ∈ order := by
    intro m
    induction m with
    | zero => intro g _ h; omega
    | succ m ih =>
      intro g hg hm
      have z := k.zero g hg
      rw [List.append_nil] at z
      refine z.mpr ?_
      rw [k.wt g hg]
      have o := open_all (order := order) (l := aw g) fun s h => ih s (hs g hg s h) (by have := hr g hg s h; omega)
      rw [o]
      rfl
  have := nodup_le hn fun g hg => all (r g + 1) g hg (by omega)
  omega
end
end GN
namespace GN
open Sf33
def mx (f : Nat → Nat) (a : Nat) (l : List Nat) : Nat := l.foldl (fun d i => max d (f i + 1)) a
theorem mx_cons (f : Nat → Nat) (a i : Nat) (l : List Nat) : mx f a (i :: l) = mx f (max a (f i + 1)) l := rfl
theorem mx_ge0 (f : Nat → Nat) : ∀ (l : List Nat) (a : Nat), a ≤ mx f a l
  | [], _ => Nat.le_refl _
  | i :: l, a => by
    rw [mx_cons]
    have := mx_ge0 f l (max a (f i + 1))
    omega
theorem mx_ge (f : Nat → Nat) : ∀ (l : List Nat) (a i : Nat), i ∈ l → f i + 1 ≤ mx f a l
  | [], _, _, h => by cases h
  | j :: l, a, i, h => by
    rw [mx_cons]
    rcases List.mem_cons.mp h with e | e
    · subst e
      have := mx_ge0 f l (max a (f i + 1))
      omega
    · exact mx_ge f l _ i e
theorem mx_eq (f : Nat → Nat) : ∀ (l : List Nat) (a : Nat), mx f a l = a ∨ ∃ i ∈ l, mx f a l = f i + 1
  | [], _ => .inl rfl
  | j :: l, a => by
    rw [mx_cons]
    rcases mx_eq f l (max a (f j + 1)) with e | ⟨i, hi, e⟩
    · rw [e]
      by_cases h : a ≤ f j + 1
      · exact .inr ⟨j, List.mem_cons_self, by omega⟩
      · exact .inl (by omega)
    · exact .inr ⟨i, List.mem_cons_of_mem _ hi, e⟩
def tab (L : List (List Nat)) (k i : Nat) : Nat := (farther L k).getD i 0
theorem getD_map (L : List (List Nat)) (f : List Nat → Nat) (h : f [] = 0) (i : Nat) : ((L.map f).toArray).getD i 0 = f (L.getD i []) := by
  rw [Array.getD_eq_getD_getElem?, List.getElem?_toArray, List.getElem?_map, List.getD_eq_getElem?_getD]
  cases L[i]? with
  | none => exact h.symm
  | some l => rfl
theorem tab_zero (L : List (List Nat)) (i : Nat) : tab L 0 i = 0 := getD_map L (fun _ => 0) rfl i
theorem tab_succ (L : List (List Nat)) (k i : Nat) : tab L (k + 1) i = mx (tab L k) 0 (L.getD i []) :=
  getD_map L (fun l => l.foldl (fun d i => max d ((farther L k).getD i 0 + 1)) 0) rfl i
theorem tab_mono (L : List (List Nat)) : ∀ (k i : Nat), tab L k i ≤ tab L (k + 1) i
  | 0, i => by rw [tab_zero]; exact Nat.zero_le _
  | k + 1, i => by
    rw [tab_succ L k]
    rcases mx_eq (tab L k) (L.getD i []) 0 with e | ⟨j, hj, e⟩
    · rw [e]
      exact Nat.zero_le _
    · rw [e, tab_succ L (k + 1)]
      have h1 := mx_ge (tab L (k + 1)) (L.getD i []) 0 j hj
      have h2 := tab_mono L k j
      omega
theorem tab_new (L : List (List Nat)) : ∀ (k i : Nat), tab L k i < tab L (k + 1) i → tab L (k + 1) i = k + 1
  | 0, i => by
    intro h
    rw [tab_succ] at h ⊢
    rcases mx_eq (tab L 0) (L.getD i []) 0 with e | ⟨j, hj, e⟩
    · omega
    · rw [e, tab_zero]
  | k + 1, i => by
    intro h
    rw [tab_succ L (k + 1)] at h ⊢
    rcases mx_eq (tab L (k + 1)) (L.getD i []) 0 with e | ⟨j, hj, e⟩
    · omega
    · rw [e] at h ⊢
      rw [tab_succ L k] at h
      have h1 := mx_ge (tab L k) (L.getD i []) 0 j hj
      have := tab_new L k j (by omega)
      omega
theorem tab_le (L : List (List Nat)) (r : Nat → Nat) (h : ∀ i, ∀ j ∈ L.getD i [], r j < r i) : ∀ (k i : Nat), tab L k i ≤ r i
  | 0, i => by rw [tab_zero]; exact Nat.zero_le _
  | k + 1, i => by
    rw [tab_succ]
    rcases mx_eq (tab L k) (L.getD i []) 0 with e | ⟨j, hj, e⟩
    · omega
    · rw [e]
      have h1 := tab_le L r h k j
      have h2 := h i j hj
      omega
theorem size_farther (L : List (List Nat)) : ∀ k, (farther L k).size = L.length
  | 0 => by simp [farther]
  | k + 1 => by simp [farther]
theorem all_tab (L : List (List Nat)) (k N : Nat) : ((farther L k).all fun d => decide (d ≤ N)) = true ↔ ∀ i, i < L.length → tab L k i ≤ N := by
  rw [Array.all_eq_true]
  constructor
  · intro h i hi
    have hi' : i < (farther L k).size := by rw [size_farther]; exact hi
    have := h i hi'
    unfold tab
    rw [Array.getD_eq_getD_getElem?, Array.getElem?_eq_getElem hi']
    simpa using this
  · intro h i hi
    have := h i (by rw [← size_farther L k]; exact hi)
    unfold tab at this
    rw [Array.getD_eq_getD_getElem?, Array.getElem?_eq_getElem hi] at this
    simpa using this
theorem place_lt {n : Net} {w : Bytes} (h : w ∈ n.names) : n.place w < n.names.length := List.findIdx_lt_length_of_exists ⟨w, h, by simp⟩
theorem place_get {n : Net} {w : Bytes} (h : w ∈ n.names) : n.names.getD (n.place w) [] = w := by
  have hl := place_lt h
  rw [List.getD_eq_getElem?_getD, List.getElem?_eq_getElem hl]
  have := List.findIdx_getElem (xs := n.names) (p := fun y => y == w) (w := hl)
  exact eq_of_beq this
theorem links_get (n : Net) (i : Nat) (hi : i < n.names.length) : n.links.getD i [] = (n.takes (n.names.getD i [])).map n.place := by
  unfold Net.links
  rw [List.getD_eq_getElem?_getD, List.getElem?_map, List.getD_eq_getElem?_getD, List.getElem?_eq_getElem hi]
  rfl
theorem links_out (n : Net) (i : Nat) (hi : ¬ i < n.names.length) : n.links.getD i [] = [] := by
  unfold Net.links
  rw [List.getD_eq_getElem?_getD, List.getElem?_map, List.getElem?_eq_none (by omega)]
  rfl
theorem far_iff (n : Net) (hk : ∀ g ∈ n.names, ∀ s ∈ n.takes g, s ∈ n.names) :
    (n.far.all fun d => decide (d ≤ n.names.length)) = true ↔ ∃ r : Bytes → Nat, (∀ g ∈ n.names, r g ≤ n.names.length) ∧ ∀ g ∈ n.names, ∀ s ∈ n.takes g, r s < r g := by
  have hll : n.links.length = n.names.length := by simp [Net.links]
  unfold Net.far
  rw [all_tab, hll]
  constructor
  · intro h
    refine ⟨fun w => tab n.links (n.names.length + 1) (n.place w), fun g hg => h _ (place_lt hg), fun g hg s hs => ?_⟩
    have hp := place_lt hg
    have hl := links_get n _ hp
    rw [place_get hg] at hl
    have hm : n.place s ∈ n.links.getD (n.place g) [] := by
      rw [hl]
      exact List.mem_map.mpr ⟨s, hs, rfl⟩
    have h1 := mx_ge (tab n.links n.names.length) _ 0 _ hm
    have h2 := h _ (place_lt (hk g hg s hs))
    have h3 := tab_mono n.links n.names.length (n.place s)
    have h4 := tab_new n.links n.names.length (n.place s)
    show tab n.links (n.names.length + 1) (n.place s) < tab n.links (n.names.length + 1) (n.place g)
    rw [tab_succ n.links n.names.length (n.place g)]
    omega
  · rintro ⟨r, hb, hr⟩ i hi
    refine Nat.le_trans (tab_le n.links (fun i => r (n.names.getD i [])) (fun i j hj => ?_) _ i) (hb _ ?_)
    · by_cases hi : i < n.names.length
      · rw [links_get n i hi] at hj
        obtain ⟨s, hs, rfl⟩ := List.mem_map.mp hj
        have hg : n.names.getD i [] ∈ n.names := by
          rw [List.getD_eq_getElem?_getD, List.getElem?_eq_getElem hi]
          exact List.getElem_mem hi
        have := hr _ hg s hs
        rw [place_get (hk _ hg s hs)]
        exact this
      · rw [links_out n i hi] at hj
        cases hj
    · rw [List.getD_eq_getElem?_getD, List.getElem?_eq_getElem hi]
      exact List.getElem_mem hi
end GN
namespace GN
open Sf33
theorem dups_le : ∀ (k : Nat) (l : List Bytes), l.length ≤ k → l.eraseDups.length ≤ l.length ∧ (l.eraseDups.length = l.length ↔ l.Nodup)
  | _, [], _ => by simp
  | 0, _ :: _, h => by simp at h
  | k + 1, a :: l, h => by
    rw [List.eraseDups_cons, List.length_cons, List.length_cons]
    have hf : (l.filter fun b => !b == a).length ≤ l.length := List.length_filter_le _ _
    have hk : (l.filter fun b => !b == a).length ≤ k := by rw [List.length_cons] at h; omega
    obtain ⟨h1, h2⟩ := dups_le k _ hk
    refine ⟨by omega, ?_⟩
    rw [List.nodup_cons]
    constructor
    · intro e
      have e1 : (l.filter fun b => !b == a).length = l.length := by omega
      have e2 : l.filter (fun b => !b == a) = l := List.filter_sublist.eq_of_length e1
      have e3 : ∀ b ∈ l, (!b == a) = true := List.filter_eq_self.mp e2
      rw [e2] at h2
      refine ⟨fun hm => ?_, h2.mp (by rw [e2] at e; omega)⟩
      have := e3 a hm
      simp at this
    · rintro ⟨hm, hn⟩
      have e2 : l.filter (fun b => !b == a) = l := List.filter_eq_self.mpr fun b hb => by
        have : b ≠ a := fun z => hm (z ▸ hb)
        simpa using this
      rw [e2] at h2 ⊢
      have := h2.mpr hn
      omega
theorem dups_iff (l : List Bytes) : l.eraseDups.length = l.length ↔ l.Nodup := (dups_le l.length l (Nat.le_refl _)).2

def emptyN : Net := ⟨[], [], []⟩
def rawIn (n : Net) (w : Bytes) : Option Net := if isName w = true ∧ w ∉ n.names then some { n with ins := n.ins ++ [w] } else none
def rawLine (n : Net) (l : List Bytes) : Option Net := match l with
  | [] => some n
  | w :: r =>
    if w = txt "in" then (if r = [] then none else r.foldlM rawIn n)
    else if w = txt "out" then (if r = [] then none else some { n with outs := n.outs ++ r })
    else match r with
      | [61] :: k :: a => (kindOf k).bind fun x => if a.length = x.2 ∧ (isName w = true ∧ w ∉ n.names) then some { n with gates := n.gates ++ [⟨w, x.1, a⟩] } else none
      | _ => none

/-- names as they should be -/
structure Fine (n : Net) : Prop where
  nd : n.names.Nodup
  ok : ∀ w ∈ n.names, isName w = true
theorem names_in (n : Net) (w : Bytes) : ({ n with ins := n.ins ++ [w] } : Net).names.Perm (w :: n.names) := by
  unfold Net.names
  show (n.ins ++ [w] ++ n.gates.map _).Perm (w :: (n.ins ++ n.gates.map _))
  rw [List.append_assoc]
  exact List.perm_middle
theorem names_gate (n : Net) (g : Gate) : ({ n with gates := n.gates ++ [g] } : Net).names.Perm (g.name :: n.names) := by
  unfold Net.names
  show (n.ins ++ (n.gates ++ [g]).map _).Perm _
  rw [List.map_append, ← List.append_assoc]
  exact List.perm_append_comm
theorem fine_more {n m : Net} {w : Bytes} (h : Fine n) (hw : isName w = true) (hn : w ∉ n.names) (p : m.names.Perm (w :: n.names)) : Fine m := by
  refine ⟨p.nodup_iff.mpr (List.nodup_cons.mpr ⟨hn, h.nd⟩), fun x hx => ?_⟩
  rcases List.mem_cons.mp (p.mem_iff.mp hx) with e | e
  · exact e ▸ hw
  · exact h.ok x e
theorem rawIn_fine {n m : Net} {w : Bytes} (h : Fine n) (e : rawIn n w = some m) : Fine m := by
  unfold rawIn at e
  split at e
  · rename_i c
    cases e
    exact fine_more h c.1 c.2 (names_in n w)
  · cases e
theorem rawIns_fine : ∀ {r : List Bytes} {n m : Net}, Fine n → r.foldlM rawIn n = some m → Fine m
  | [], n, m, h, e => by cases e; exact h
  | w :: r, n, m, h, e => by
    rw [List.foldlM_cons] at e
    cases q : rawIn n w with
    | none => rw [q] at e; cases e
    | some k => rw [q] at e; exact rawIns_fine (rawIn_fine h q) e
theorem rawIns_eq : ∀ {r : List Bytes} {n m : Net}, r.foldlM rawIn n = some m → m = { n with ins := n.ins ++ r } ∧ (∀ x ∈ r, isName x = true)
  | [], n, m, e => by cases e; simp
  | w :: r, n, m, e => by
    rw [List.foldlM_cons] at e
    cases q : rawIn n w with
    | none => rw [q] at e; cases e
    | some k =>
      rw [q] at e
      obtain ⟨e1, e2⟩ := rawIns_eq (show r.foldlM rawIn k = some m from e)
      unfold rawIn at q
      split at q
      · rename_i c
        cases q
        refine ⟨by rw [e1]; simp, fun x hx => ?_⟩
        rcases List.mem_cons.mp hx with z | z
        · exact z ▸ c.1
        · exact e2 x z
      · cases q
theorem rawLine_fine {n m : Net} {l : List Bytes} (h : Fine n) (e : rawLine n l = some m) : Fine m := by
  unfold rawLine at e
  split at e
  · cases e; exact h
  · split at e
    · split at e
      · cases e
      · exact rawIns_fine h e
    · split at e
      · split at e
        · cases e
        · cases e; exact ⟨h.nd, h.ok⟩
      · split at e
        · obtain ⟨x, _, hx⟩ := Option.bind_eq_some_iff.mp e
          split at hx
          · rename_i c
            cases hx
            exact fine_more h c.2.1 c.2.2 (names_gate n _)
          · cases hx
        · cases e
theorem raw_fine : ∀ {L : List (List Bytes)} {n m : Net}, Fine n → L.foldlM rawLine n = some m → Fine m
  | [], n, m, h, e => by cases e; exact h
  | l :: L, n, m, h, e => by
    rw [List.foldlM_cons] at e
    cases q : rawLine n l with
    | none => rw [q] at e; cases e
    | some k => rw [q] at e; exact raw_fine (rawLine_fine h q) e

/-- one is there from the start of another -/
structure Ahead (n m : Net) : Prop where
  ins : ∃ a, m.ins = n.ins ++ a
  outs : ∃ a, m.outs = n.outs ++ a
  gates : ∃ a, m.gates = n.gates ++ a
theorem Ahead.refl (n : Net) : Ahead n n := ⟨⟨[], by simp⟩, ⟨[], by simp⟩, ⟨[], by simp⟩⟩
theorem Ahead.trans {a b c : Net} (h : Ahead a b) (k : Ahead b c) : Ahead a c := by
  obtain ⟨⟨x, hx⟩, ⟨y, hy⟩, ⟨z, hz⟩⟩ := h
  obtain ⟨⟨x', hx'⟩, ⟨y', hy'⟩, ⟨z', hz'⟩⟩ := k
  exact ⟨⟨x ++ x', by rw [hx', hx, List.append_assoc]⟩, ⟨y ++ y', by rw [hy', hy, List.append_assoc]⟩, ⟨z ++ z', by rw [hz', hz, List.append_assoc]⟩⟩
theorem rawLine_ahead {n m : Net} {l : List Bytes} (e : rawLine n l = some m) : Ahead n m := by
  unfold rawLine at e
  split at e
  · cases e; exact .refl _
  · split at e
    · split at e
      · cases e
      · rw [(rawIns_eq e).1]
        exact ⟨⟨_, rfl⟩, ⟨[], by simp⟩, ⟨[], by simp⟩⟩
    · split at e
      · split at e
        · cases e
        · cases e; exact ⟨⟨[], by simp⟩, ⟨_, rfl⟩, ⟨[], by simp⟩⟩
      · split at e
        · obtain ⟨x, _, hx⟩ := Option.bind_eq_some_iff.mp e
          split at hx
          · cases hx
            exact ⟨⟨[], by simp⟩, ⟨[], by simp⟩, ⟨_, rfl⟩⟩
          · cases hx
        · cases e
theorem line_ahead {n m : Net} {l : List Bytes} (e : line n l = some m) : Ahead n m := by
  unfold line at e
  split at e
  · cases e; exact .refl _
  · split at e
    · split at e
      · cases e; exact ⟨⟨_, rfl⟩, ⟨[], by simp⟩, ⟨[], by simp⟩⟩
      · cases e
    · split at e
      · split at e
        · cases e; exact ⟨⟨[], by simp⟩, ⟨_, rfl⟩, ⟨[], by simp⟩⟩
        · cases e
      · split at e
        · obtain ⟨x, _, hx⟩ := Option.bind_eq_some_iff.mp e
          split at hx
          · cases hx
            exact ⟨⟨[], by simp⟩, ⟨[], by simp⟩, ⟨_, rfl⟩⟩
          · cases hx
        · cases e
theorem fold_ahead {f : Net → List Bytes → Option Net} (hf : ∀ {n m l}, f n l = some m → Ahead n m) : ∀ {L : List (List Bytes)} {n m : Net}, L.foldlM f n = some m → Ahead n m
  | [], n, m, e => by cases e; exact .refl _
  | l :: L, n, m, e => by
    rw [List.foldlM_cons] at e
    cases q : f n l with
    | none => rw [q] at e; cases e
    | some k => rw [q] at e; exact (hf q).trans (fold_ahead hf e)
/-- all that is used is a name -/
structure Named (n : Net) : Prop where
  outs : ∀ w ∈ n.outs, isName w = true
  from_ : ∀ g ∈ n.gates, ∀ w ∈ g.from_, isName w = true
theorem Ahead.named {n m : Net} (h : Ahead n m) (k : Named m) : Named n := by
  obtain ⟨_, ⟨y, hy⟩, ⟨z, hz⟩⟩ := h
  exact ⟨fun w hw => k.outs w (by rw [hy]; exact List.mem_append_left _ hw), fun g hg => k.from_ g (by rw [hz]; exact List.mem_append_left _ hg)⟩
theorem Ahead.nodup {n m : Net} (h : Ahead n m) (k : m.names.Nodup) : n.names.Nodup := by
  obtain ⟨⟨x, hx⟩, _, ⟨z, hz⟩⟩ := h
  unfold Net.names at k ⊢
  rw [hx, hz, List.map_append] at k
  refine List.Nodup.sublist ?_ k
  exact List.Sublist.append (List.sublist_append_left _ _) (List.sublist_append_left _ _)
theorem all_name {r : List Bytes} : r.all isName = true ↔ ∀ x ∈ r, isName x = true := List.all_eq_true
/-- from the program's reading to the specification's -/
theorem line_of_raw {n m : Net} {l : List Bytes} (e : rawLine n l = some m) (hm : Named m) : line n l = some m := by
  unfold rawLine at e
  unfold line
  split at e
  · exact e
  · rename_i w r
    split at e
    · rename_i hw
      split at e
      · cases e
      · rename_i hr
        obtain ⟨e1, e2⟩ := rawIns_eq e
        simp only [if_pos hw]
        rw [if_pos ⟨hr, all_name.mpr e2⟩, e1]
    · rename_i hw
      simp only [if_neg hw]
      split at e
      · rename_i ho
        split at e
        · cases e
        · rename_i hr
          cases e
          rw [if_pos ho, if_pos ⟨hr, all_name.mpr fun x hx => hm.outs x (List.mem_append_right _ hx)⟩]
      · rename_i ho
        rw [if_neg ho]
        split at e
        · obtain ⟨x, hk, hx⟩ := Option.bind_eq_some_iff.mp e
          split at hx
          · rename_i c
            cases hx
            show (kindOf _).bind _ = _
            rw [hk]
            have ha : ∀ y ∈ _, isName y = true := hm.from_ _ (List.mem_append_right _ (List.mem_singleton.mpr rfl))
            simp only [Option.bind_some]
            rw [if_pos ⟨c.2.1, all_name.mpr ha, c.1⟩]
          · cases hx
        · cases e
theorem rawIns_of : ∀ {r : List Bytes} {n : Net}, (∀ x ∈ r, isName x = true) → ({ n with ins := n.ins ++ r } : Net).names.Nodup → r.foldlM rawIn n = some { n with ins := n.ins ++ r }
  | [], n, _, _ => by simp
  | w :: r, n, h, hn => by
    have hw : w ∉ n.names := fun hm => by
      unfold Net.names at hn hm
      simp only [List.append_assoc, List.cons_append] at hn
      rw [List.nodup_append] at hn
      rcases List.mem_append.mp hm with z | z
      · exact hn.2.2 w z w List.mem_cons_self rfl
      · exact (List.nodup_cons.mp hn.2.1).1 (List.mem_append_right _ z)
    rw [List.foldlM_cons]
    have q : rawIn n w = some { n with ins := n.ins ++ [w] } := if_pos ⟨h w List.mem_cons_self, hw⟩
    rw [q]
    have ih := rawIns_of (r := r) (n := { n with ins := n.ins ++ [w] }) (fun x hx => h x (List.mem_cons_of_mem _ hx)) (by simpa using hn)
    show r.foldlM rawIn { n with ins := n.ins ++ [w] } = _
    rw [ih]
    simp
/-- and back -/
theorem raw_of_line {n m : Net} {l : List Bytes} (e : line n l = some m) (hm : m.names.Nodup) : rawLine n l = some m := by
  unfold line at e
  unfold rawLine
  split at e
  · exact e
  · rename_i w r
    split at e
    · rename_i hw
      split at e
      · rename_i c
        cases e
        simp only [if_pos hw]
        rw [if_neg c.1, rawIns_of (all_name.mp c.2) hm]
      · cases e
    · rename_i hw
      simp only [if_neg hw]
      split at e
      · rename_i ho
        split at e
        · rename_i c
          cases e
          rw [if_pos ho, if_neg c.1]
        · cases e
      · rename_i ho
        rw [if_neg ho]
        split at e
        · obtain ⟨x, hk, hx⟩ := Option.bind_eq_some_iff.mp e
          split at hx
          · rename_i c
            cases hx
            show (kindOf _).bind _ = _
            rw [hk]
            simp only [Option.bind_some]
            have hw' : w ∉ n.names := (List.nodup_cons.mp ((names_gate n ⟨w, x.1, _⟩).nodup_iff.mp hm)).1
            exact if_pos ⟨c.2.2, c.1, hw'⟩
          · cases hx
        · cases e
theorem lines_of_raw : ∀ {L : List (List Bytes)} {n m : Net}, L.foldlM rawLine n = some m → Named m → L.foldlM line n = some m
  | [], n, m, e, _ => e
  | l :: L, n, m, e, hm => by
    rw [List.foldlM_cons] at e ⊢
    cases q : rawLine n l with
    | none => rw [q] at e; cases e
    | some k =>
      rw [q] at e
      rw [line_of_raw q ((fold_ahead rawLine_ahead (show L.foldlM rawLine k = some m from e)).named hm)]
      exact lines_of_raw e hm
theorem raw_of_lines : ∀ {L : List (List Bytes)} {n m : Net}, L.foldlM line n = some m → m.names.Nodup → L.foldlM rawLine n = some m
  | [], n, m, e, _ => e
  | l :: L, n, m, e, hm => by
    rw [List.foldlM_cons] at e ⊢
    cases q : line n l with
    | none => rw [q] at e; cases e
    | some k =>
      rw [q] at e
      rw [raw_of_line q ((fold_ahead line_ahead (show L.foldlM line k = some m from e)).nodup hm)]
      exact raw_of_lines e hm
/-- what is used is known -/
structure Known (n : Net) : Prop where
  outs : ∀ w ∈ n.outs, w ∈ n.names
  from_ : ∀ g ∈ n.gates, ∀ w ∈ g.from_, w ∈ n.names
structure Small (n : Net) : Prop where
  ins : n.ins.length ≤ 64
  outs : n.outs.length ≤ 64
  names : n.names.length ≤ 1024
def Rank (n : Net) : Prop := ∃ r : Bytes → Nat, (∀ g ∈ n.names, r g ≤ n.names.length) ∧ ∀ g ∈ n.names, ∀ s ∈ n.takes g, r s < r g
theorem takes_known {n : Net} (k : Known n) : ∀ g ∈ n.names, ∀ s ∈ n.takes g, s ∈ n.names := by
  intro g _ s hs
  unfold Net.takes at hs
  split at hs
  · rename_i x hx
    split at hs
    · cases hs
    · exact k.from_ x (List.mem_of_find?_eq_some hx) s hs
  · cases hs
theorem right_iff (n : Net) : n.right = true ↔ n.names.Nodup ∧ Small n ∧ Known n ∧ Rank n := by
  unfold Net.right
  simp only [Bool.and_eq_true, decide_eq_true_eq, List.all_eq_true, List.contains_iff_mem]
  constructor
  · rintro ⟨⟨⟨⟨⟨⟨h1, h2⟩, h3⟩, h4⟩, h5⟩, h6⟩, h7⟩
    have k : Known n := ⟨h5, h6⟩
    exact ⟨(dups_iff _).mp h1, ⟨h3, h4, h2⟩, k, (far_iff n (takes_known k)).mp h7⟩
  · rintro ⟨h1, h2, k, r⟩
    exact ⟨⟨⟨⟨⟨⟨(dups_iff _).mpr h1, h2.names⟩, h2.ins⟩, h2.outs⟩, k.outs⟩, k.from_⟩, (far_iff n (takes_known k)).mpr r⟩
theorem fine0 : Fine emptyN := ⟨List.nodup_nil, fun _ h => by cases h⟩
/-- the specification's network is what the program's reading finds -/
theorem network_some {b : Bytes} (hb : b.length ≤ 65536) (n : Net) : network (b.length : Int) b = some n ↔ (lines b).foldlM rawLine emptyN = some n ∧ Small n ∧ Known n ∧ Rank n := by
  unfold network
  rw [if_pos ⟨by omega, by omega⟩, Option.bind_eq_some_iff]
  constructor
  · rintro ⟨m, hm, e⟩
    split at e
    · rename_i r
      cases e
      obtain ⟨h1, h2, h3, h4⟩ := (right_iff _).mp r
      exact ⟨raw_of_lines hm h1, h2, h3, h4⟩
    · cases e
  · rintro ⟨e, h2, h3, h4⟩
    have f := raw_fine fine0 e
    have hn : Named n := ⟨fun w hw => f.ok w (h3.outs w hw), fun g hg w hw => f.ok w (h3.from_ g hg w hw)⟩
    refine ⟨n, lines_of_raw e hn, ?_⟩
    rw [if_pos ((right_iff n).mpr ⟨f.nd, h2, h3, h4⟩)]
end GN
namespace GN
open Sf33
open PySem (Str)
theorem all256 {P : UInt8 → Prop} (h : ∀ n, n < 256 → P (UInt8.ofNat n)) (c : UInt8) : P c := by
  have e : UInt8.ofNat c.toNat = c := by simp
  rw [← e]
  exact h _ c.toNat_lt
def known (c : UInt8) : Bool := c == 10 || (c == 9 || (c == 32 || (c == 35 || (c == 61 || inName c))))
def sp1 (c : UInt8) : Nat := if known c = true then c.toNat else 63
def en (w : Bytes) : Str := ⟨(w.map sp1).toArray⟩
theorem en_tl (w : Bytes) : TL.tl (en w) = w.map sp1 := rfl
theorem en_len (w : Bytes) : (en w).length = w.length := by
  show ((w.map sp1).toArray).size = _
  simp
theorem sp1_inj {c d : UInt8} (hd : known d = true) (e : sp1 c = sp1 d) : c = d := by
  unfold sp1 at e
  rw [if_pos hd] at e
  split at e
  · exact UInt8.toNat_inj.mp e
  · have z : d = 63 := UInt8.toNat_inj.mp (by rw [← e]; rfl)
    rw [z] at hd
    exact absurd hd (by decide)
theorem map_sp1_inj : ∀ {v w : Bytes}, (∀ d ∈ v, known d = true) → w.map sp1 = v.map sp1 → w = v
  | [], [], _, _ => rfl
  | [], _ :: _, _, e => by simp at e
  | _ :: _, [], _, e => by simp at e
  | d :: v, c :: w, h, e => by
    rw [List.map_cons, List.map_cons] at e
    injection e with e1 e2
    rw [sp1_inj (h d List.mem_cons_self) e1, map_sp1_inj (fun x hx => h x (List.mem_cons_of_mem _ hx)) e2]
theorem en_inj {v w : Bytes} (h : ∀ d ∈ v, known d = true) (e : en w = en v) : w = v := map_sp1_inj h (by rw [← en_tl, ← en_tl, e])
theorem known_inName : ∀ c : UInt8, inName c = true → known c = true := fun c h => by
  unfold known
  rw [h]
  simp
theorem small_inName (c : UInt8) (h : small c = true) : inName c = true := by
  unfold inName
  rw [h]
  rfl
theorem isName_known {v : Bytes} (h : isName v = true) : ∀ d ∈ v, known d = true := by
  unfold isName at h
  split at h
  · cases h
  · rename_i c r
    simp only [Bool.and_eq_true, List.all_eq_true] at h
    intro d hd
    rcases List.mem_cons.mp hd with e | e
    · exact e ▸ known_inName c (small_inName c h.1)
    · exact known_inName d (h.2.1 d e)
theorem en_inj' {v w : Bytes} (h : isName v = true) : en w = en v ↔ w = v := ⟨en_inj (isName_known h), fun e => by rw [e]⟩
/-- back from a text -/
def de (z : Str) : Bytes := z.cps.toList.map UInt8.ofNat
theorem de_en {v : Bytes} (h : isName v = true) : de (en v) = v := by
  show (v.map sp1).map UInt8.ofNat = v
  have k := isName_known h
  rw [List.map_map]
  conv => rhs; rw [← List.map_id v]
  refine List.map_congr_left fun c hc => ?_
  show UInt8.ofNat (sp1 c) = c
  unfold sp1
  rw [if_pos (k c hc)]
  simp

/-! words that are written -/
theorem lit_eq {s : Str} {v : Bytes} (h : en v = s) (hv : v.all known = true) (w : Bytes) : en w = s ↔ w = v := by
  rw [← h]
  exact ⟨en_inj (List.all_eq_true.mp hv), fun e => by rw [e]⟩
abbrev sIn : Str := "in"
abbrev sOut : Str := "out"
abbrev sEq : Str := "="
theorem en_in (w : Bytes) : en w = sIn ↔ w = txt "in" := lit_eq (by decide +kernel) (by decide +kernel) w
theorem en_out (w : Bytes) : en w = sOut ↔ w = txt "out" := lit_eq (by decide +kernel) (by decide +kernel) w
theorem en_eq (w : Bytes) : en w = sEq ↔ w = [61] := lit_eq (by decide +kernel) (by decide +kernel) w
def letters : List Nat := (Str.ofString "abcdefghijklmnopqrstuvwxyz").cps.toList
def signs : List Nat := (Str.ofString "abcdefghijklmnopqrstuvwxyz0123456789_").cps.toList
theorem letters_iff (c : UInt8) : decide (sp1 c ∈ letters) = small c := all256 (P := fun c => decide (sp1 c ∈ letters) = small c) (by decide +kernel) c
theorem signs_iff (c : UInt8) : decide (sp1 c ∈ signs) = inName c := all256 (P := fun c => decide (sp1 c ∈ signs) = inName c) (by decide +kernel) c
/-- is_name -/
def pname (z : Str) : Bool := if z = sIn ∨ z = sOut then false else if z.length > 15 ∨ ¬ z.cps.toList.headD 0 ∈ letters then false else z.cps.toList.all fun c => decide (c ∈ signs)
theorem head0 : (0 : Nat) ∉ letters := by decide +kernel
theorem pname_en (w : Bytes) : pname (en w) = isName w := by
  unfold pname
  simp only [en_in, en_out, en_len]
  show (if w = txt "in" ∨ w = txt "out" then false else if w.length > 15 ∨ ¬ (w.map sp1).headD 0 ∈ letters then false else (w.map sp1).all fun c => decide (c ∈ signs)) = isName w
  have ha : ((w.map sp1).all fun c => decide (c ∈ signs)) = w.all inName := by
    rw [List.all_map]
    congr 1
    funext c
    exact signs_iff c
  rw [ha]
  unfold isName
  cases w with
  | nil => simp [head0]
  | cons c r =>
    have hl := letters_iff c
    simp only [List.map_cons, List.headD_cons, List.length_cons, List.all_cons]
    by_cases h1 : c :: r = txt "in"
    · simp [h1]
    · by_cases h2 : c :: r = txt "out"
      · simp [h2]
      · rw [if_neg (by simp [h1, h2])]
        by_cases h3 : r.length ≤ 14
        · by_cases h4 : sp1 c ∈ letters
          · rw [decide_eq_true h4] at hl
            rw [if_neg (by simp [h4]; omega), ← hl, small_inName c hl.symm]
            simp [h1, h2, h3]
          · rw [decide_eq_false h4] at hl
            rw [if_pos (.inr h4), ← hl]
            rfl
        · rw [if_pos (.inl (by omega))]
          simp [h3]

/-! kinds -/
abbrev kZero : Str := "zero"
abbrev kOne : Str := "one"
abbrev kNot : Str := "not"
abbrev kBuf : Str := "buf"
abbrev kReg : Str := "reg"
abbrev kReg1 : Str := "reg1"
abbrev kAnd : Str := "and"
abbrev kOr : Str := "or"
abbrev kXor : Str := "xor"
abbrev kNand : Str := "nand"
abbrev kNor : Str := "nor"
abbrev kXnor : Str := "xnor"
abbrev kMaj : Str := "maj"
abbrev kMux : Str := "mux"
/-- how many names a kind takes -/
def kc (z : Str) : Option Nat :=
  if z = kZero then some 0 else if z = kOne then some 0 else if z = kNot then some 1 else if z = kBuf then some 1 else if z = kReg then some 1 else if z = kReg1 then some 1
  else if z = kAnd then some 2 else if z = kOr then some 2 else if z = kXor then some 2 else if z = kNand then some 2 else if z = kNor then some 2 else if z = kXnor then some 2
  else if z = kMaj then some 3 else if z = kMux then some 3 else none
def kw : Kind → Str
  | .zero => kZero | .one => kOne | .not => kNot | .buf => kBuf | .reg false => kReg | .reg true => kReg1
  | .and => kAnd | .or => kOr | .xor => kXor | .nand => kNand | .nor => kNor | .xnor => kXnor | .maj => kMaj | .mux => kMux
theorem en_zero (w : Bytes) : en w = kZero ↔ w = txt "zero" := lit_eq (by decide +kernel) (by decide +kernel) w
theorem en_one (w : Bytes) : en w = kOne ↔ w = txt "one" := lit_eq (by decide +kernel) (by decide +kernel) w
theorem en_not (w : Bytes) : en w = kNot ↔ w = txt "not" := lit_eq (by decide +kernel) (by decide +kernel) w
theorem en_buf (w : Bytes) : en w = kBuf ↔ w = txt "buf" := lit_eq (by decide +kernel) (by decide +kernel) w
theorem en_reg (w : Bytes) : en w = kReg ↔ w = txt "reg" := lit_eq (by decide +kernel) (by decide +kernel) w
theorem en_reg1 (w : Bytes) : en w = kReg1 ↔ w = txt "reg1" := lit_eq (by decide +kernel) (by decide +kernel) w
theorem en_and (w : Bytes) : en w = kAnd ↔ w = txt "and" := lit_eq (by decide +kernel) (by decide +kernel) w
theorem en_or (w : Bytes) : en w = kOr ↔ w = txt "or" := lit_eq (by decide +kernel) (by decide +kernel) w
theorem en_xor (w : Bytes) : en w = kXor ↔ w = txt "xor" := lit_eq (by decide +kernel) (by decide +kernel) w
theorem en_nand (w : Bytes) : en w = kNand ↔ w = txt "nand" := lit_eq (by decide +kernel) (by decide +kernel) w
theorem en_nor (w : Bytes) : en w = kNor ↔ w = txt "nor" := lit_eq (by decide +kernel) (by decide +kernel) w
theorem en_xnor (w : Bytes) : en w = kXnor ↔ w = txt "xnor" := lit_eq (by decide +kernel) (by decide +kernel) w
theorem en_maj (w : Bytes) : en w = kMaj ↔ w = txt "maj" := lit_eq (by decide +kernel) (by decide +kernel) w
theorem en_mux (w : Bytes) : en w = kMux ↔ w = txt "mux" := lit_eq (by decide +kernel) (by decide +kernel) w
theorem kc_en (w : Bytes) : kc (en w) = (kindOf w).map (·.2) := by
  unfold kc kindOf
  simp only [en_zero, en_one, en_not, en_buf, en_reg, en_reg1, en_and, en_or, en_xor, en_nand, en_nor, en_xnor, en_maj, en_mux]
  simp only [apply_ite (Option.map fun x : Kind × Nat => x.2), Option.map_some, Option.map_none]
theorem ite_some {c : Prop} [Decidable c] {a x : Kind × Nat} {t : Option (Kind × Nat)} (h : (if c then some a else t) = some x) : (c ∧ a = x) ∨ t = some x := by
  by_cases hc : c
  · rw [if_pos hc] at h
    exact .inl ⟨hc, Option.some.inj h⟩
  · rw [if_neg hc] at h
    exact .inr h
theorem kw_en {w : Bytes} {x : Kind × Nat} (h : kindOf w = some x) : en w = kw x.1 := by
  unfold kindOf at h
  rcases ite_some h with ⟨e, rfl⟩ | h
  · exact (en_zero w).mpr e
  rcases ite_some h with ⟨e, rfl⟩ | h
  · exact (en_one w).mpr e
  rcases ite_some h with ⟨e, rfl⟩ | h
  · exact (en_not w).mpr e
  rcases ite_some h with ⟨e, rfl⟩ | h
  · exact (en_buf w).mpr e
  rcases ite_some h with ⟨e, rfl⟩ | h
  · exact (en_reg w).mpr e
  rcases ite_some h with ⟨e, rfl⟩ | h
  · exact (en_reg1 w).mpr e
  rcases ite_some h with ⟨e, rfl⟩ | h
  · exact (en_and w).mpr e
  rcases ite_some h with ⟨e, rfl⟩ | h
  · exact (en_or w).mpr e
  rcases ite_some h with ⟨e, rfl⟩ | h
  · exact (en_xor w).mpr e
  rcases ite_some h with ⟨e, rfl⟩ | h
  · exact (en_nand w).mpr e
  rcases ite_some h with ⟨e, rfl⟩ | h
  · exact (en_nor w).mpr e
  rcases ite_some h with ⟨e, rfl⟩ | h
  · exact (en_xnor w).mpr e
  rcases ite_some h with ⟨e, rfl⟩ | h
  · exact (en_maj w).mpr e
  rcases ite_some h with ⟨e, rfl⟩ | h
  · exact (en_mux w).mpr e
  cases h
def isRegS (z : Str) : Bool := decide (z = kReg) || decide (z = kReg1)
theorem isReg_kw (k : Kind) : isRegS (kw k) = k.isReg := by
  cases k with
  | reg b => cases b <;> decide +kernel
  | _ => decide +kernel
end GN
namespace GN
open Sf33
open PySem (Str)
/-! ### the text's lines -/
theorem sp1_ten (c : UInt8) : (sp1 c = 10) ↔ ((c == 10) = true) := by
  have h := all256 (P := fun c => decide (sp1 c = 10) = (c == 10)) (by decide +kernel) c
  rw [← h]
  simp
theorem sp1_hash (c : UInt8) : (sp1 c = 35) ↔ ((c != 35) = false) := by
  have h := all256 (P := fun c => decide (sp1 c = 35) = !(c != 35)) (by decide +kernel) c
  by_cases e : sp1 c = 35
  · simp only [e, decide_true] at h
    simp only [e, true_iff]
    cases q : (c != 35)
    · rfl
    · rw [q] at h; cases h
  · simp only [e, decide_false] at h
    simp only [e, false_iff]
    intro q
    rw [q] at h
    cases h
theorem sp1_space (c : UInt8) (h : (c == 10) = false) : PySem.Unicode.isSpace (sp1 c) = blank c := by
  have k := all256 (P := fun c => (c == 10) = false → PySem.Unicode.isSpace (sp1 c) = blank c) (by decide +kernel) c
  exact k h
theorem pre_one (s c : Nat) (r : List Nat) : TL.pre [s] (c :: r) = decide (c = s) := by
  show (List.take 1 (c :: r) == [s]) = _
  rw [Bool.eq_iff_iff]
  simp
theorem spl_lines : ∀ (b w : Bytes), TL.spl [10] 0 (w.map sp1) (b.map sp1) = (split (fun c => c == 10) b w).map (fun l => l.map sp1)
  | [], w => by rw [List.map_nil, TL.spl_nil]; rfl
  | c :: r, w => by
    rw [List.map_cons]
    by_cases h : (c == 10) = true
    · rw [TL.spl_hit (by rw [pre_one]; exact decide_eq_true ((sp1_ten c).mpr h))]
      have e : split (fun c => c == 10) (c :: r) w = w :: split (fun c => c == 10) r [] := if_pos h
      rw [e, List.map_cons]
      exact congrArg _ (spl_lines r [])
    · rw [TL.spl_miss (by rw [pre_one]; exact decide_eq_false fun z => h ((sp1_ten c).mp z))]
      have e : split (fun c => c == 10) (c :: r) w = split (fun c => c == 10) r (w ++ [c]) := if_neg h
      rw [e, ← spl_lines r (w ++ [c]), List.map_append]
      rfl
theorem split_no : ∀ (b w : Bytes), (∀ c ∈ w, (c == 10) = false) → ∀ l ∈ split (fun c => c == 10) b w, ∀ c ∈ l, (c == 10) = false
  | [], w, h, l, hl => by
    rw [List.mem_singleton.mp hl]
    exact h
  | c :: r, w, h, l, hl => by
    unfold split at hl
    split at hl
    · rcases List.mem_cons.mp hl with e | e
      · exact e ▸ h
      · exact split_no r [] (fun _ z => by cases z) l e
    · rename_i hc
      refine split_no r (w ++ [c]) (fun x hx => ?_) l hl
      rcases List.mem_append.mp hx with e | e
      · exact h x e
      · rw [List.mem_singleton.mp e]
        simpa using hc
theorem par_hash : ∀ (b w : Bytes), (match TL.par [35] (w.map sp1) (b.map sp1) with | some (a, _) => a | none => w.map sp1 ++ b.map sp1) = (w ++ b.takeWhile fun c => c != 35).map sp1
  | [], w => by
    show w.map sp1 ++ [] = (w ++ []).map sp1
    simp
  | c :: r, w => by
    rw [List.map_cons]
    by_cases h : (c != 35) = false
    · rw [TL.par_hit (by rw [pre_one]; exact decide_eq_true ((sp1_hash c).mpr h)), List.takeWhile_cons, h]
      simp
    · have h' : (c != 35) = true := by simpa using h
      rw [TL.par_miss (by rw [pre_one]; exact decide_eq_false fun z => h ((sp1_hash c).mp z)), List.takeWhile_cons, h']
      have ih := par_hash r (w ++ [c])
      simp only [List.map_append, List.map_cons, List.map_nil, List.append_assoc, List.cons_append, List.nil_append, if_true] at ih ⊢
      exact ih
theorem partition_en (l : Bytes) : (PySem.Txt.partition (en l) "#").1 = en (l.takeWhile fun c => c != 35) := by
  have hy : TL.tl ("#" : Str) = [35] := by decide +kernel
  rw [TL.partition_par _ _ (by rw [hy]; simp), hy]
  have h := par_hash l []
  rw [List.map_nil, List.nil_append, List.nil_append] at h
  show (match TL.par [35] [] (l.map sp1) with | some (a, b) => ((⟨a.toArray⟩ : Str), ("#" : Str), (⟨b.toArray⟩ : Str)) | none => (en l, PySem.Str.empty, PySem.Str.empty)).1 = _
  unfold en
  rw [← h]
  cases TL.par [35] [] (l.map sp1) with
  | none => rfl
  | some q => rfl
theorem fold_words : ∀ (l u : Bytes) (ws : List Bytes), (∀ c ∈ l, (c == 10) = false) →
    TL.wfin ((l.map sp1).foldl TL.wstep (ws.map (fun w => w.map sp1), u.map sp1)) = (ws ++ (split blank l u).filter fun w => w != []).map (fun w => w.map sp1)
  | [], u, ws, _ => by
    show (if u.map sp1 = [] then ws.map _ else ws.map _ ++ [u.map sp1]) = (ws ++ [u].filter fun w => w != []).map _
    cases u with
    | nil => simp
    | cons a u => simp
  | c :: r, u, ws, h => by
    have hc := h c List.mem_cons_self
    have hr := fun x hx => h x (List.mem_cons_of_mem c hx)
    have hs := sp1_space c hc
    rw [List.map_cons, List.foldl_cons]
    by_cases hb : blank c = true
    · have e : split blank (c :: r) u = u :: split blank r [] := if_pos hb
      rw [e]
      cases u with
      | nil =>
        have q : TL.wstep (ws.map (fun w => w.map sp1), ([] : Bytes).map sp1) (sp1 c) = (ws.map (fun w => w.map sp1), ([] : Bytes).map sp1) := (if_pos (hs.trans hb)).trans (if_pos rfl)
        rw [q, fold_words r [] ws hr]
        rfl
      | cons a u =>
        have q : TL.wstep (ws.map (fun w => w.map sp1), (a :: u).map sp1) (sp1 c) = ((ws ++ [a :: u]).map (fun w => w.map sp1), ([] : Bytes).map sp1) := by
          refine (if_pos (hs.trans hb)).trans ((if_neg (by simp)).trans ?_)
          simp
        rw [q, fold_words r [] (ws ++ [a :: u]) hr]
        have f : ((a :: u) :: split blank r []).filter (fun w => w != []) = (a :: u) :: (split blank r []).filter (fun w => w != []) := rfl
        rw [f, List.append_assoc]
        rfl
    · have e : split blank (c :: r) u = split blank r (u ++ [c]) := if_neg hb
      have q : TL.wstep (ws.map (fun w => w.map sp1), u.map sp1) (sp1 c) = (ws.map (fun w => w.map sp1), (u ++ [c]).map sp1) := by
        refine (if_neg (by rw [hs]; exact hb)).trans ?_
        simp
      rw [e, q, fold_words r (u ++ [c]) ws hr]
theorem words_en {l : Bytes} (h : ∀ c ∈ l, (c == 10) = false) : PySem.Txt.words (en l) = ((split blank l []).filter fun w => w != []).map en := by
  refine TL.map_tl_inj ?_
  rw [TL.words_tl]
  have k := fold_words l [] [] h
  rw [List.map_nil, List.nil_append] at k
  rw [show TL.tl (en l) = l.map sp1 from rfl]
  refine k.trans ?_
  rw [List.map_map]
  rfl
/-- the lines of the text, before words -/
def rows (b : Bytes) : List Bytes := split (fun c => c == 10) b []
theorem split_en (b : Bytes) : PySem.Txt.split (en b) "\n" = (rows b).map en := by
  refine TL.map_tl_inj ?_
  have hy : TL.tl ("\n" : Str) = [10] := by decide +kernel
  rw [TL.split_spl _ _ (by rw [hy]; simp) (TL.kind_ok (by decide +kernel)), hy]
  have k := spl_lines b []
  rw [List.map_nil] at k
  rw [show TL.tl (en b) = b.map sp1 from rfl]
  refine k.trans ?_
  rw [List.map_map]
  rfl
/-- the words of a line -/
def wordsOf (l : Bytes) : List Bytes := (split blank (l.takeWhile fun c => c != 35) []).filter fun w => w != []
theorem lines_rows (b : Bytes) : lines b = (rows b).map wordsOf := rfl
theorem words_row {b l : Bytes} (h : l ∈ rows b) : PySem.Txt.words (PySem.Txt.partition (en l) "#").1 = (wordsOf l).map en := by
  rw [partition_en]
  refine words_en fun c hc => ?_
  exact split_no b [] (fun _ z => by cases z) l h c (List.takeWhile_sublist _ |>.subset hc)
/-! ### sizes -/
theorem split_sum (p : UInt8 → Bool) : ∀ (b w : Bytes), ((split p b w).map List.length).sum ≤ b.length + w.length
  | [], w => by simp [split]
  | c :: r, w => by
    unfold split
    split
    · have := split_sum p r []
      simp only [List.map_cons, List.sum_cons, List.length_nil] at this ⊢
      rw [List.length_cons]
      omega
    · have := split_sum p r (w ++ [c])
      rw [List.length_append] at this
      simp only [List.length_cons, List.length_nil] at this ⊢
      omega
theorem filter_len : ∀ L : List Bytes, (L.filter fun w => w != []).length ≤ (L.map List.length).sum
  | [] => by simp
  | [] :: L => by
    have := filter_len L
    simpa using this
  | (a :: w) :: L => by
    have := filter_len L
    have e : ((a :: w) :: L).filter (fun w => w != []) = (a :: w) :: L.filter (fun w => w != []) := rfl
    rw [e]
    simp only [List.length_cons, List.map_cons, List.sum_cons]
    omega
theorem words_count (l : Bytes) : (wordsOf l).length ≤ l.length := by
  unfold wordsOf
  have h1 := filter_len (split blank (l.takeWhile fun c => c != 35) [])
  have h2 := split_sum blank (l.takeWhile fun c => c != 35) []
  have h3 : (l.takeWhile fun c => c != 35).length ≤ l.length := (List.takeWhile_sublist _).length_le
  simp only [List.length_nil] at h2
  exact Nat.le_trans h1 (by omega)
theorem mem_sum : ∀ {L : List Bytes} {l : Bytes}, l ∈ L → l.length ≤ (L.map List.length).sum
  | a :: L, l, h => by
    simp only [List.map_cons, List.sum_cons]
    rcases List.mem_cons.mp h with e | e
    · subst e; omega
    · have := mem_sum e; omega
theorem row_len {b l : Bytes} (h : l ∈ rows b) : l.length ≤ b.length := by
  have h1 := mem_sum h
  have h2 := split_sum (fun c => c == 10) b []
  unfold rows at h1
  simp only [List.length_nil] at h2
  omega
theorem word_len {l w : Bytes} (h : w ∈ wordsOf l) : 1 ≤ w.length ∧ w.length ≤ l.length := by
  unfold wordsOf at h
  obtain ⟨h1, h2⟩ := List.mem_filter.mp h
  have a := mem_sum h1
  have b := split_sum blank (l.takeWhile fun c => c != 35) []
  have c : (l.takeWhile fun c => c != 35).length ≤ l.length := (List.takeWhile_sublist _).length_le
  simp only [List.length_nil] at b
  refine ⟨?_, by omega⟩
  cases w with
  | nil => simp at h2
  | cons _ _ => simp
theorem rows_total : ∀ (L : List Bytes), (L.map fun l => (wordsOf l).length).sum ≤ (L.map List.length).sum
  | [] => by simp
  | l :: L => by
    have := rows_total L
    have := words_count l
    simp only [List.map_cons, List.sum_cons]
    omega
theorem all_words (b : Bytes) : ((rows b).map fun l => (wordsOf l).length).sum ≤ b.length := by
  have h1 := rows_total (rows b)
  have h2 := split_sum (fun c => c == 10) b []
  unfold rows at h1 ⊢
  simp only [List.length_nil] at h2
  omega
theorem rows_len : ∀ (b w : Bytes), (split (fun c => c == 10) b w).length ≤ b.length + 1
  | [], w => by simp [split]
  | c :: r, w => by
    unfold split
    split
    · have := rows_len r []
      simp only [List.length_cons]
      omega
    · have := rows_len r (w ++ [c])
      simp only [List.length_cons]
      omega
end GN
namespace GN
open Sf33
open PySem (Str)
/-! ### the program's own network: names as texts -/
structure PG where
  name : Str
  kind : Str
  src : List Str
structure PN where
  ins : List Str
  outs : List Str
  gates : List PG
def PN.gn (p : PN) : List Str := p.gates.map PG.name
def PN.given (p : PN) (w : Str) : Bool := decide (w ∈ p.ins) || decide (w ∈ p.gn)
def PN.fresh (p : PN) (w : Str) : Bool := pname w && !p.given w
def pIn (p : PN) (w : Str) : Option PN := if p.fresh w = true then some { p with ins := p.ins ++ [w] } else none
def pGate (p : PN) (w e k : Str) (a : List Str) : Option PN :=
  if e = sEq then (match kc k with
    | some c => if a.length = c ∧ p.fresh w = true then some { p with gates := p.gates ++ [⟨w, k, a⟩] } else none
    | none => none) else none
def pLine (p : PN) (ws : List Str) : Option PN := match ws with
  | [] => some p
  | w :: r =>
    if w = sIn then (if r = [] then none else r.foldlM pIn p)
    else if w = sOut then (if r = [] then none else some { p with outs := p.outs ++ r })
    else match r with
      | e :: k :: a => pGate p w e k a
      | _ => none
def encG (g : Gate) : PG := ⟨en g.name, kw g.kind, g.from_.map en⟩
def encN (n : Net) : PN := ⟨n.ins.map en, n.outs.map en, n.gates.map encG⟩
theorem gn_enc (n : Net) : (encN n).gn = (n.gates.map fun g => g.name).map en := by
  show (n.gates.map encG).map PG.name = _
  rw [List.map_map, List.map_map]
  rfl
theorem mem_en {l : List Bytes} (h : ∀ v ∈ l, isName v = true) (w : Bytes) : en w ∈ l.map en ↔ w ∈ l := by
  constructor
  · intro hm
    obtain ⟨v, hv, e⟩ := List.mem_map.mp hm
    rw [(en_inj' (h v hv)).mp e.symm]
    exact hv
  · exact fun hm => List.mem_map.mpr ⟨w, hm, rfl⟩
theorem Fine.ins {n : Net} (f : Fine n) : ∀ v ∈ n.ins, isName v = true := fun v hv => f.ok v (List.mem_append_left _ hv)
theorem Fine.gts {n : Net} (f : Fine n) : ∀ v ∈ n.gates.map (fun g => g.name), isName v = true := fun v hv => f.ok v (List.mem_append_right _ hv)
theorem given_enc {n : Net} (f : Fine n) (w : Bytes) : (encN n).given (en w) = decide (w ∈ n.names) := by
  unfold PN.given
  rw [gn_enc]
  have h1 := mem_en f.ins w
  have h2 := mem_en f.gts w
  show (decide (en w ∈ n.ins.map en) || decide (en w ∈ (n.gates.map fun g => g.name).map en)) = _
  unfold Net.names
  rw [Bool.eq_iff_iff]
  simp only [Bool.or_eq_true, decide_eq_true_eq, List.mem_append, h1, h2]
theorem fresh_enc {n : Net} (f : Fine n) (w : Bytes) : (encN n).fresh (en w) = true ↔ isName w = true ∧ w ∉ n.names := by
  unfold PN.fresh
  rw [pname_en, given_enc f]
  simp
theorem pIn_enc {n : Net} (f : Fine n) (w : Bytes) : pIn (encN n) (en w) = (rawIn n w).map encN := by
  unfold pIn rawIn
  by_cases h : isName w = true ∧ w ∉ n.names
  · rw [if_pos ((fresh_enc f w).mpr h), if_pos h]
    simp [encN]
  · rw [if_neg (fun z => h ((fresh_enc f w).mp z)), if_neg h]
    rfl
theorem pIns_enc : ∀ {r : List Bytes} {n : Net}, Fine n → (r.map en).foldlM pIn (encN n) = (r.foldlM rawIn n).map encN
  | [], n, _ => rfl
  | w :: r, n, f => by
    rw [List.map_cons, List.foldlM_cons, List.foldlM_cons, pIn_enc f]
    cases q : rawIn n w with
    | none => rfl
    | some k => exact pIns_enc (rawIn_fine f q)
theorem pGate_enc {n : Net} (f : Fine n) (w e k : Bytes) (a : List Bytes) :
    pGate (encN n) (en w) (en e) (en k) (a.map en) = (if e = [61] then ((kindOf k).bind fun x => if a.length = x.2 ∧ (isName w = true ∧ w ∉ n.names) then some { n with gates := n.gates ++ [⟨w, x.1, a⟩] } else none) else none).map encN := by
  unfold pGate
  by_cases he : e = [61]
  · rw [if_pos ((en_eq e).mpr he), if_pos he, kc_en]
    cases q : kindOf k with
    | none => rfl
    | some x =>
      simp only [Option.map_some, Option.bind_some, List.length_map]
      by_cases h : a.length = x.2 ∧ (isName w = true ∧ w ∉ n.names)
      · rw [if_pos ⟨h.1, (fresh_enc f w).mpr h.2⟩, if_pos h]
        simp [encN, encG, kw_en q]
      · rw [if_neg (fun z => h ⟨z.1, (fresh_enc f w).mp z.2⟩), if_neg h]
        rfl
  · rw [if_neg (fun z => he ((en_eq e).mp z)), if_neg he]
    rfl
theorem pLine_enc {n : Net} (f : Fine n) (l : List Bytes) : pLine (encN n) (l.map en) = (rawLine n l).map encN := by
  cases l with
  | nil => rfl
  | cons w r =>
    unfold pLine rawLine
    simp only [List.map_cons, en_in, en_out, List.map_eq_nil_iff]
    by_cases h1 : w = txt "in"
    · simp only [if_pos h1]
      by_cases h2 : r = []
      · simp only [if_pos h2]; rfl
      · simp only [if_neg h2]
        exact pIns_enc f
    · simp only [if_neg h1]
      by_cases h3 : w = txt "out"
      · simp only [if_pos h3]
        by_cases h2 : r = []
        · simp only [if_pos h2]; rfl
        · simp only [if_neg h2]
          simp [encN]
      · simp only [if_neg h3]
        match r with
        | [] => rfl
        | [e] =>
          show (none : Option PN) = _
          split
          · rename_i heq
            simp at heq
          · rfl
        | e :: k :: a =>
          have key := pGate_enc f w e k a
          by_cases he : e = [61]
          · subst he
            rw [if_pos rfl] at key
            exact key
          · rw [if_neg he] at key
            show pGate (encN n) (en w) (en e) (en k) (a.map en) = _
            rw [key]
            split
            · rename_i heq
              injection heq with h1 h2
              exact absurd h1 he
            · rfl
theorem parse_enc : ∀ {L : List (List Bytes)} {n : Net}, Fine n → (L.map fun l => l.map en).foldlM pLine (encN n) = (L.foldlM rawLine n).map encN
  | [], n, _ => rfl
  | l :: L, n, f => by
    rw [List.map_cons, List.foldlM_cons, List.foldlM_cons, pLine_enc f]
    cases q : rawLine n l with
    | none => rfl
    | some k => exact parse_enc (rawLine_fine f q)
/-! ### sizes -/
def PN.sz (p : PN) : Nat := p.ins.length + p.outs.length + p.gates.length
theorem pIns_sz : ∀ {r : List Str} {p q : PN}, r.foldlM pIn p = some q → q.sz = p.sz + r.length
  | [], p, q, e => by cases e; rfl
  | w :: r, p, q, e => by
    rw [List.foldlM_cons] at e
    unfold pIn at e
    split at e
    · have := pIns_sz (p := { p with ins := p.ins ++ [w] }) e
      unfold PN.sz at this ⊢
      simp only [List.length_append, List.length_cons, List.length_nil] at this ⊢
      omega
    · cases e
theorem pLine_sz {p q : PN} {ws : List Str} (e : pLine p ws = some q) : q.sz ≤ p.sz + ws.length := by
  unfold pLine at e
  split at e
  · cases e; simp
  · rename_i w r
    split at e
    · split at e
      · cases e
      · have := pIns_sz e
        rw [List.length_cons]
        omega
    · split at e
      · split at e
        · cases e
        · cases e
          unfold PN.sz
          simp only [List.length_append, List.length_cons]
          omega
      · split at e
        · unfold pGate at e
          split at e
          · split at e
            · split at e
              · cases e
                unfold PN.sz
                simp only [List.length_append, List.length_cons, List.length_nil]
                omega
              · cases e
            · cases e
          · cases e
        · cases e
/-! ### the checks -/
def PSmall (p : PN) : Prop := p.ins.length ≤ 64 ∧ p.outs.length ≤ 64 ∧ p.ins.length + p.gates.length ≤ 1024
def PKnown (p : PN) : Prop := (∀ w ∈ p.outs, p.given w = true) ∧ ∀ g ∈ p.gates, ∀ w ∈ g.src, p.given w = true
theorem small_enc (n : Net) : PSmall (encN n) ↔ Small n := by
  unfold PSmall encN
  simp only [List.length_map]
  have h : n.names.length = n.ins.length + n.gates.length := by simp [Net.names]
  constructor
  · rintro ⟨a, b, c⟩
    exact ⟨a, b, by omega⟩
  · rintro ⟨a, b, c⟩
    exact ⟨a, b, by omega⟩
theorem known_enc {n : Net} (f : Fine n) : PKnown (encN n) ↔ Known n := by
  constructor
  · rintro ⟨h1, h2⟩
    refine ⟨fun w hw => ?_, fun g hg w hw => ?_⟩
    · have := h1 (en w) (List.mem_map.mpr ⟨w, hw, rfl⟩)
      rw [given_enc f] at this
      exact of_decide_eq_true this
    · have := h2 (encG g) (List.mem_map.mpr ⟨g, hg, rfl⟩) (en w) (List.mem_map.mpr ⟨w, hw, rfl⟩)
      rw [given_enc f] at this
      exact of_decide_eq_true this
  · rintro ⟨h1, h2⟩
    refine ⟨fun w hw => ?_, fun g hg w hw => ?_⟩
    · obtain ⟨v, hv, rfl⟩ := List.mem_map.mp hw
      rw [given_enc f]
      exact decide_eq_true (h1 v hv)
    · obtain ⟨x, hx, rfl⟩ := List.mem_map.mp hg
      obtain ⟨v, hv, rfl⟩ := List.mem_map.mp hw
      rw [given_enc f]
      exact decide_eq_true (h2 x hx v hv)
/-! ### what a gate awaits -/
def PG.now (g : PG) : List Str := if isRegS g.kind = true then [] else g.src
def PN.aw (p : PN) (z : Str) : List Str := match p.gates.find? fun g => decide (g.name = z) with
  | some g => g.now.filter fun s => decide (s ∈ p.gn)
  | none => []
theorem aw_sub (p : PN) (z s : Str) (h : s ∈ p.aw z) : s ∈ p.gn := by
  unfold PN.aw at h
  split at h
  · exact of_decide_eq_true (List.mem_filter.mp h).2
  · cases h
theorem find_enc {n : Net} (f : Fine n) (w : Bytes) : ((encN n).gates.find? fun g => decide (g.name = en w)) = (n.gate w).map encG := by
  show (n.gates.map encG).find? _ = _
  unfold Net.gate
  rw [List.find?_map]
  congr 1
  have key : ∀ (l : List Gate), (∀ g ∈ l, isName g.name = true) → l.find? ((fun g : PG => decide (g.name = en w)) ∘ encG) = l.find? fun g => g.name == w := by
    intro l
    induction l with
    | nil => intro _; rfl
    | cons g l ih =>
      intro h
      have e : ((fun g : PG => decide (g.name = en w)) ∘ encG) g = (g.name == w) := by
        show decide (en g.name = en w) = (g.name == w)
        have := en_inj' (w := w) (h g List.mem_cons_self)
        rw [Bool.eq_iff_iff]
        simp only [decide_eq_true_eq, beq_iff_eq]
        rw [eq_comm, this, eq_comm]
      rw [List.find?_cons, List.find?_cons, e, ih fun x hx => h x (List.mem_cons_of_mem _ hx)]
  exact key n.gates fun g hg => f.gts g.name (List.mem_map.mpr ⟨g, hg, rfl⟩)
theorem aw_enc {n : Net} (f : Fine n) (w : Bytes) : (encN n).aw (en w) = ((n.takes w).filter fun s => decide (s ∈ n.gates.map fun g => g.name)).map en := by
  unfold PN.aw Net.takes
  rw [find_enc f]
  cases n.gate w with
  | none => rfl
  | some g =>
    show (encG g).now.filter _ = _
    unfold PG.now
    rw [show (encG g).kind = kw g.kind from rfl, isReg_kw]
    by_cases hr : g.kind.isReg = true
    · simp [hr]
    · simp only [if_neg hr]
      show (g.from_.map en).filter _ = _
      rw [List.filter_map]
      congr 1
      congr 1
      funext s
      show decide (en s ∈ (encN n).gn) = _
      rw [gn_enc]
      simp only [mem_en f.gts s]
theorem gate_of_take {n : Net} {w s : Bytes} (h : s ∈ n.takes w) : w ∈ n.gates.map fun g => g.name := by
  unfold Net.takes at h
  split at h
  · rename_i g hg
    unfold Net.gate at hg
    have h1 := List.mem_of_find?_eq_some hg
    have h2 := List.find?_some hg
    exact List.mem_map.mpr ⟨g, h1, eq_of_beq h2⟩
  · cases h
theorem rank_of {n : Net} (f : Fine n) (h : Ranked (encN n).gn (encN n).aw) : Rank n := by
  obtain ⟨r, hb, hr⟩ := h
  have hgl : (encN n).gn.length = n.gates.length := by rw [gn_enc]; simp
  have hnl : n.names.length = n.ins.length + n.gates.length := by simp [Net.names]
  have hin : ∀ g, g ∈ n.gates.map (fun g => g.name) → en g ∈ (encN n).gn := fun g hg => by rw [gn_enc]; exact List.mem_map.mpr ⟨g, hg, rfl⟩
  refine ⟨fun w => if w ∈ n.gates.map (fun g => g.name) then r (en w) + 1 else 0, fun g hg => ?_, fun g hg s hs => ?_⟩
  · show (if g ∈ n.gates.map (fun g => g.name) then r (en g) + 1 else 0) ≤ _
    split
    · rename_i hm
      have := hb (en g) (hin g hm)
      omega
    · omega
  · have hm := gate_of_take hs
    show (if s ∈ n.gates.map (fun g => g.name) then r (en s) + 1 else 0) < (if g ∈ n.gates.map (fun g => g.name) then r (en g) + 1 else 0)
    rw [if_pos hm]
    split
    · rename_i hsm
      have := hr (en g) (hin g hm) (en s) (by
        rw [aw_enc f]
        exact List.mem_map.mpr ⟨s, List.mem_filter.mpr ⟨hs, decide_eq_true hsm⟩, rfl⟩)
      omega
    · omega
theorem ranked_of {n : Net} (f : Fine n) (h : Rank n) : ∃ r : Str → Nat, ∀ g ∈ (encN n).gn, ∀ s ∈ (encN n).aw g, r s < r g := by
  obtain ⟨r, _, hr⟩ := h
  refine ⟨fun z => r (de z), fun g hg s hs => ?_⟩
  rw [gn_enc] at hg
  obtain ⟨w, hw, rfl⟩ := List.mem_map.mp hg
  rw [aw_enc f] at hs
  obtain ⟨v, hv, rfl⟩ := List.mem_map.mp hs
  obtain ⟨hv1, hv2⟩ := List.mem_filter.mp hv
  show r (de (en v)) < r (de (en w))
  rw [de_en (f.gts v (of_decide_eq_true hv2)), de_en (f.gts w hw)]
  exact hr w (List.mem_append_right _ hw) v hv1
theorem gn_nodup {n : Net} (f : Fine n) : (encN n).gn.Nodup := by
  rw [gn_enc]
  have h : (n.gates.map fun g => g.name).Nodup := (List.nodup_append.mp f.nd).2.1
  have key : ∀ l : List Bytes, (∀ v ∈ l, isName v = true) → l.Nodup → (l.map en).Nodup := by
    intro l
    induction l with
    | nil => intro _ _; exact List.nodup_nil
    | cons a l ih =>
      intro ho hn
      rw [List.map_cons, List.nodup_cons]
      have hn' := List.nodup_cons.mp hn
      have ho' := fun v hv => ho v (List.mem_cons_of_mem _ hv)
      exact ⟨fun hm => hn'.1 ((mem_en ho' a).mp hm), ih ho' hn'.2⟩
  exact key _ f.gts h
/-- where the program's order is whole there is no circle, and back -/
theorem order_iff {n : Net} (f : Fine n) {order : List Str} {w : Str → Nat} (k : KInv (encN n).gn (encN n).aw order [] w []) : ¬ order.length < (encN n).gn.length ↔ Rank n := by
  constructor
  · exact fun h => rank_of f (k.ranked h)
  · intro h
    obtain ⟨r, hr⟩ := ranked_of f h
    exact k.complete (gn_nodup f) (fun g _ s hs => aw_sub _ g s hs) r hr
end GN
namespace GN
open PySem PySem.Spec PyProof.Rows L2
/-! ### the text by places -/
def top (i : Nat) : Stmt := PySem.Challenge.pw_gatenets_s01_check.main.body.getD i (.Pass ⟨0, 0, 0, 0⟩)
abbrev sGateInit : Stmt := inClass (top 13) 0
abbrev sNetInit : Stmt := inClass (top 14) 0
abbrev sCheck : Stmt := top 15
abbrev sRead : Stmt := top 16
abbrev sSpell : Stmt := top 17
abbrev sLine : Stmt := top 18
abbrev sAddIn : Stmt := top 19
abbrev sAddOut : Stmt := top 20
abbrev sAddGate : Stmt := top 21
abbrev sIsName : Stmt := top 22
abbrev sIsGiven : Stmt := top 23
abbrev sNew : Stmt := top 24
abbrev sMany : Stmt := top 25
abbrev sUnknown : Stmt := top 26
abbrev sLoops : Stmt := top 27
abbrev sAtOnce : Stmt := top 28
abbrev sOrder : Stmt := top 29
end GN
namespace GN
open PySem PySem.Spec PyProof.Rows L2
/-! ### rules that the layer lacks -/
/-- X(), X an own exception class without own __init__ -/
theorem pmk_own0 {X : Cx} {C : Addr} {bmB : List Value} {B newId initId : String} {x : Str} {p pos : Pos} (F : ExcBaseFacts B newId initId bmB) (q : PySem.W.excIn X.K C bmB newId = true) (gC : X.mg x = some (.ref C))
    (kC : PySem.W.keepIn X.K (.ref C) = true) (r : Raises X (.ref C)) (hg : Gl X x) (hdb : (x == ("__debug__" : Str)) = false := by decide) :
    PMk X (.Call (.Name x p) [] [] pos) (fun _ H Q => Q (.ref C) none H) := by
  intro pins s σ H Q I h
  refine wpAny_Call_Name_kw (ld_glob I hg gC ?_ hdb)
  refine PySem.W.callWith_K0 I.kIn kC ?_
  show wpAny _ _ (call (.ref C) []) _ _ _
  obtain ⟨bm, N, nm, qn, bs, hdct, sn, sub, ab, col, dd, k0, k1, k2, k3, k5, mN, hC, hN, hni, T⟩ := exc_obj I.kIn q
  refine wpAny_call_exc_subT F T hC hN hni (fun h' e hm => ?_) (Nat.zero_le _)
  exact mk_of I hm r h (I.hok.gone hm.new)
theorem if_t {c : Bool} {A B : Prop} (hc : c = true) (h : A) : if c = true then A else B := by
  rw [if_pos hc]
  exact h
theorem if_f {c : Bool} {A B : Prop} (hc : c = false) (h : B) : if c = true then A else B := by
  rw [hc, if_neg Bool.false_ne_true]
  exact h
/-- a field that is there, another that is skipped -/
theorem fld_hit (k : Str) (v : V) (r : List (Str × V)) : List.lookup k ((k, v) :: r) = some v := by
  unfold List.lookup
  rw [show (k == k) = true from BEq.rfl]
theorem fld_skip {k g : Str} (v : V) (r : List (Str × V)) (h : (k == g) = false) : List.lookup k ((g, v) :: r) = List.lookup k r := by
  conv => lhs; unfold List.lookup
  rw [h]
theorem put_skip {f g : Str} (v x : V) (r : List (Str × V)) (h : ¬ g = f) : putF f v ((g, x) :: r) = (g, x) :: putF f v r := by
  unfold putF
  rw [if_neg h]
  cases r <;> rfl
/-! ### the heap -/
/-- a gate of the table: what it is, and where it lies -/
structure GR where
  pg : PG
  ga : Addr
  dx : Addr
  sa : Addr
/-- where a network lies: its object, its own dict, its inputs, outputs, gates -/
structure NAd where
  a : Addr
  dx : Addr
  di : Addr
  dl : Addr
  dg : Addr
def gF (k : Str) (sa : Addr) : List (Str × V) := [("kind", .str k), ("sources", .ref sa)]
def nF (A : NAd) : List (Str × V) := [("inputs", .ref A.di), ("outputs", .ref A.dl), ("gates", .ref A.dg)]
def insK (ins : List Str) : List (Key × V) := ins.zipIdx.map fun q => (Sum.inr q.1, .int (q.2 : Nat))
def gatesK (tb : List GR) : List (Key × V) := tb.map fun r => (Sum.inr r.pg.name, .ref r.ga)
structure GAt (CG : Addr) (H : Hp) (r : GR) : Prop where
  ob : H r.ga = some (.ins CG r.dx (gF r.pg.kind r.sa))
  src : H r.sa = some (.lst (r.pg.src.map V.str))
structure NOk (CN CG : Addr) (H : Hp) (A : NAd) (p : PN) (tb : List GR) : Prop where
  ob : H A.a = some (.ins CN A.dx (nF A))
  ins : H A.di = some (.dK (insK p.ins))
  outs : H A.dl = some (.lst (p.outs.map V.str))
  gates : H A.dg = some (.dK (gatesK tb))
  apart : A.di ≠ A.dg
  row : p.gates = tb.map GR.pg
  each : ∀ r ∈ tb, GAt CG H r
  free : ∀ r ∈ tb, r.sa ≠ A.dl
/-- all but a network's three parts stays -/
def Keep (A : NAd) (H H' : Hp) : Prop := ∀ b o, H b = some o → b ≠ A.di → b ≠ A.dl → b ≠ A.dg → H' b = some o
theorem Keep.of_same {A : NAd} {H H' : Hp} (s : Same H H') : Keep A H H' := fun b o e _ _ _ => s b o e
theorem Keep.trans {A : NAd} {H H1 H2 : Hp} (a : Keep A H H1) (b : Keep A H1 H2) : Keep A H H2 := fun c o e h1 h2 h3 => b c o (a c o e h1 h2 h3) h1 h2 h3
theorem GAt.keep {CG : Addr} {H H' : Hp} {r : GR} {S : Addr → Prop} (g : GAt CG H r) (k : ∀ b o, H b = some o → ¬ S b → H' b = some o) (h1 : ¬ S r.ga) (h2 : ¬ S r.sa) : GAt CG H' r := ⟨k _ _ g.ob h1, k _ _ g.src h2⟩
theorem NOk.same {CN CG : Addr} {H H' : Hp} {A : NAd} {p : PN} {tb : List GR} (n : NOk CN CG H A p tb) (s : Same H H') : NOk CN CG H' A p tb :=
  ⟨s _ _ n.ob, s _ _ n.ins, s _ _ n.outs, s _ _ n.gates, n.apart, n.row, fun r hr => ⟨s _ _ (n.each r hr).ob, s _ _ (n.each r hr).src⟩, n.free⟩
theorem nF_in (A : NAd) : (nF A).lookup ("inputs" : Str) = some (.ref A.di) := fld_hit _ _ _
theorem nF_out (A : NAd) : (nF A).lookup ("outputs" : Str) = some (.ref A.dl) := (fld_skip _ _ (by decide +kernel)).trans (fld_hit _ _ _)
theorem nF_gates (A : NAd) : (nF A).lookup ("gates" : Str) = some (.ref A.dg) := (fld_skip _ _ (by decide +kernel)).trans ((fld_skip _ _ (by decide +kernel)).trans (fld_hit _ _ _))
theorem gF_kind (k : Str) (sa : Addr) : (gF k sa).lookup ("kind" : Str) = some (.str k) := fld_hit _ _ _
theorem gF_src (k : Str) (sa : Addr) : (gF k sa).lookup ("sources" : Str) = some (.ref sa) := (fld_skip _ _ (by decide +kernel)).trans (fld_hit _ _ _)
theorem insK_len (l : List Str) : (insK l).length = l.length := by simp [insK]
theorem gatesK_len (l : List GR) : (gatesK l).length = l.length := by simp [gatesK]
theorem val_in (l : List Str) (w : Str) (k : Nat) : (valV ((l.zipIdx k).map fun q => ((Sum.inr q.1 : Key), V.int (q.2 : Nat))) (Sum.inr w)).isSome = decide (w ∈ l) := by
  induction l generalizing k with
  | nil => simp [valV_nil]
  | cons a l ih =>
    rw [List.zipIdx_cons, List.map_cons]
    by_cases e : a = w
    · subst e
      rw [valV_pos rfl]
      simp
    · rw [valV_neg (by simpa using e), ih]
      have : w ≠ a := fun z => e z.symm
      simp [this]
theorem valV_in (l : List Str) (w : Str) : (valV (insK l) (Sum.inr w)).isSome = decide (w ∈ l) := val_in l w 0
theorem valV_gates (tb : List GR) (w : Str) : (valV (gatesK tb) (Sum.inr w)).isSome = decide (w ∈ tb.map fun r => r.pg.name) := by
  induction tb with
  | nil => simp [gatesK, valV_nil]
  | cons a l ih =>
    unfold gatesK at ih ⊢
    rw [List.map_cons, List.map_cons]
    by_cases e : a.pg.name = w
    · subst e
      rw [valV_pos rfl]
      simp
    · rw [valV_neg (by simpa using e), ih]
      have : w ≠ a.pg.name := fun z => e z.symm
      simp [this]
theorem NOk.gn {CN CG : Addr} {H : Hp} {A : NAd} {p : PN} {tb : List GR} (n : NOk CN CG H A p tb) : p.gn = tb.map fun r => r.pg.name := by
  unfold PN.gn
  rw [n.row, List.map_map]
  rfl
/-! ### walks with a turn a gate -/
abbrev Locked (d : Addr) (o : Obj) (tb : List GR) : Hp → Prop := fun H => H d = some (.frz o (.dK (gatesK tb)))
theorem w_keys {d : Addr} {o : Obj} {tb : List GR} : Walk (Itk d o (gatesK tb)) tb.length (Locked d o tb) (Itk d o (gatesK tb)).yld where
  goes := fun i H hi q => ⟨q, by rw [gatesK_len]; exact hi⟩
  stops := fun H q => ⟨q, Nat.le_of_eq (gatesK_len tb)⟩
  yields := fun _ _ _ _ _ _ y => y
theorem w_vals {d : Addr} {o : Obj} {tb : List GR} : Walk (Itd d o (gatesK tb)) tb.length (Locked d o tb) (Itd d o (gatesK tb)).yld where
  goes := fun i H hi q => ⟨q, by rw [gatesK_len]; exact hi⟩
  stops := fun H q => ⟨q, Nat.le_of_eq (gatesK_len tb)⟩
  yields := fun _ _ _ _ _ _ y => y
theorem w_items {d : Addr} {o : Obj} {tb : List GR} : Walk (Iti d o (gatesK tb)) tb.length (Locked d o tb) (Iti d o (gatesK tb)).yld where
  goes := fun i H hi q => ⟨q, by rw [gatesK_len]; exact hi⟩
  stops := fun H q => ⟨q, Nat.le_of_eq (gatesK_len tb)⟩
  yields := fun _ _ _ _ _ _ y => y
/-! ### what the top has written -/
structure Txt (K : PySem.W.Frag) (mg : Str → Option Value) (CF CG CN : Addr) : Prop where
  cG : Cls K CG
  cN : Cls K CN
  nK : NoAttr K CG "kind"
  nS : NoAttr K CG "sources"
  nI : NoAttr K CN "inputs"
  nO : NoAttr K CN "outputs"
  nG : NoAttr K CN "gates"
  gF : mg "NoNetwork" = some (.ref CF)
  gG : mg "Gate" = some (.ref CG)
  gN : mg "Network" = some (.ref CN)
  xF : PySem.W.excIn K CF [.type "ValueError", .type "Exception", .type "BaseException", .type "object"] "ValueError.__new__" = true
  kF : PySem.W.keepIn K (.ref CF) = true
  bF : PySem.W.subIn K (.ref CF) (.type "BaseException") = some true
  tF : PySem.W.typeIn K (.ref CF) = some (.type "type")
  eF : PySem.W.exmOne K (.ref CF) (.ref CF) = some true
  len : mg "len" = none
  ord : mg "ord" = none
  all : mg "all" = none
  mBytes : ∃ t, mg "MOST_BYTES" = some (.int 65536 t)
  mNames : ∃ t, mg "MOST_NAMES" = some (.int 1024 t)
  mIns : ∃ t, mg "MOST_INPUTS" = some (.int 64 t)
  mOuts : ∃ t, mg "MOST_OUTPUTS" = some (.int 64 t)
  mLong : ∃ t, mg "LONGEST_NAME" = some (.int 15 t)
  sLet : ∃ t, mg "LETTERS" = some (.str "abcdefghijklmnopqrstuvwxyz" t)
  sSig : ∃ t, mg "NAME_SIGNS" = some (.str "abcdefghijklmnopqrstuvwxyz0123456789_" t)
  sKno : ∃ t, mg "KNOWN_SIGNS" = some (.str "\n\t #=abcdefghijklmnopqrstuvwxyz0123456789_" t)
  sStr : ∃ t, mg "STRANGE_SIGN" = some (.str "?" t)
/-- a network is refused: nothing is asked of the heap then -/
abbrev Raised (CF : Addr) (E : XK) : Prop := ∀ H' : Hp, E (.ref CF) none H'
section
variable {P : Program} {w : World} {K : PySem.W.Frag} {mg : Str → Option Value} {base : Heap} {CF CG CN : Addr}
/-! ### Gate.__init__, Network.__init__ -/
def spGateInit (CG : Addr) : Sp := fun vs H Q _ => ∃ (x dx sa : Addr) (k : Str), vs = [.ref x, .str k, .ref sa] ∧ H x = some (.ins CG dx []) ∧
  ∀ H' : Hp, H' x = some (.ins CG dx (gF k sa)) → (∀ b o, H b = some o → b ≠ x → H' b = some o) → (∀ b, b ≠ x → H' b = H b) → Q .non H'
theorem scGI : FnScope ["self", "kind", "sources"] ["self", "kind", "sources"] (defScope sGateInit) := ⟨rfl, rfl, rfl, by decide +kernel, rfl, by decide +kernel, by decide +kernel⟩
theorem gF_new (k : Str) (sa : Addr) : putF "sources" (.ref sa) (putF "kind" (.str k) []) = gF k sa := (put_skip _ _ _ (by decide +kernel)).trans rfl
theorem ok_gateInit {f : Addr} {fd : FuncData} (F : Fun K "__init__" "Gate.__init__" sGateInit f fd) (T : Txt K mg CF CG CN) : FnOk P w K mg base CX0 1 f fd ["self", "kind", "sources"] (spGateInit CG) := by
  refine F.ok scGI (fun vs H Q E h => ?_) (fun cdv A outer s H vs Q E hr h => ?_)
  · obtain ⟨x, dx, sa, k, rfl, _⟩ := h
    rfl
  · obtain ⟨x, dx, sa, k, rfl, hx, q⟩ := h
    refine ⟨_, pss_cons (ps_fld (pv 0) (pv 1) rfl) (pss_one (ps_fld (pv 0) (pv 2) rfl)), ?_⟩
    refine ⟨_, rfl, _, rfl, x, CG, dx, [], rfl, hx, T.cG, T.nK, (by show 0 < 1000; decide), ?_⟩
    refine ⟨_, rfl, _, rfl, x, CG, dx, _, rfl, upd_same, T.cG, T.nS, (by show 1 < 1000; decide), ?_⟩
    refine q _ (Eq.trans upd_same (congrArg (fun q => some (HO.ins CG dx q)) (gF_new k sa))) (fun b o e hb => ?_) (fun b hb => ?_)
    · rw [upd_ne hb, upd_ne hb]
      exact e
    · rw [upd_ne hb, upd_ne hb]
def spNetInit (CN : Addr) : Sp := fun vs H Q _ => ∃ (x dx : Addr), vs = [.ref x] ∧ H x = some (.ins CN dx []) ∧
  ∀ (H' : Hp) (A : NAd), A.a = x → A.dx = dx → H A.di = none → H A.dl = none → H A.dg = none → A.di ≠ A.dg → H' x = some (.ins CN dx (nF A)) → H' A.di = some (.dK []) → H' A.dl = some (.lst []) → H' A.dg = some (.dK []) →
    (∀ b o, H b = some o → b ≠ x → H' b = some o) → Q .non H'
theorem scNI : FnScope ["self"] ["self"] (defScope sNetInit) := ⟨rfl, rfl, rfl, by decide +kernel, rfl, by decide +kernel, by decide +kernel⟩
theorem nF_new (A : NAd) : putF "gates" (.ref A.dg) (putF "outputs" (.ref A.dl) (putF "inputs" (.ref A.di) [])) = nF A := by
  have e1 : putF "outputs" (.ref A.dl) (putF "inputs" (.ref A.di) []) = [(("inputs" : Str), V.ref A.di), ("outputs", .ref A.dl)] := (put_skip _ _ _ (by decide +kernel)).trans rfl
  rw [e1]
  exact (put_skip _ _ _ (by decide +kernel)).trans (congrArg _ ((put_skip _ _ _ (by decide +kernel)).trans rfl))
theorem ok_netInit {f : Addr} {fd : FuncData} (F : Fun K "__init__" "Network.__init__" sNetInit f fd) (T : Txt K mg CF CG CN) : FnOk P w K mg base CX0 1 f fd ["self"] (spNetInit CN) := by
  refine F.ok scNI (fun vs H Q E h => ?_) (fun cdv A outer s H vs Q E hr h => ?_)
  · obtain ⟨x, dx, rfl, _⟩ := h
    rfl
  · obtain ⟨x, dx, rfl, hx, q⟩ := h
    refine ⟨_, pss_cons (ps_fld (pv 0) pe_dnewK rfl) (pss_cons (ps_fld (pv 0) (pe_lst pa_nil) rfl) (pss_one (ps_fld (pv 0) pe_dnewK rfl))), ?_⟩
    intro di hdi
    have n1 : x ≠ di := ne_of_none hx hdi
    refine ⟨_, rfl, x, CN, dx, [], rfl, (by rw [upd_ne n1]; exact hx), T.cN, T.nI, (by show 0 < 1000; decide), ?_⟩
    refine ⟨(by show 0 ≤ sizeLine; decide), fun dl hdl => ?_⟩
    have n2 : x ≠ dl := ne_of_none upd_same hdl
    have n3 : di ≠ dl := ne_of_none (by rw [upd_ne (Ne.symm n1)]; exact upd_same) hdl
    rw [upd_ne (Ne.symm n2), upd_ne (Ne.symm n3)] at hdl
    refine ⟨_, rfl, x, CN, dx, _, rfl, (by rw [upd_ne n2]; exact upd_same), T.cN, T.nO, (by show 1 < 1000; decide), ?_⟩
    intro dg hdg
    have n4 : x ≠ dg := ne_of_none upd_same hdg
    have n5 : dl ≠ dg := ne_of_none (by rw [upd_ne (Ne.symm n2)]; exact upd_same) hdg
    have n6 : di ≠ dg := ne_of_none (by rw [upd_ne (Ne.symm n1), upd_ne n3, upd_ne (Ne.symm n1)]; exact upd_same) hdg
    rw [upd_ne (Ne.symm n4), upd_ne (Ne.symm n5), upd_ne (Ne.symm n4), upd_ne (Ne.symm n6)] at hdg
    refine ⟨_, rfl, x, CN, dx, _, rfl, (by rw [upd_ne n4]; exact upd_same), T.cN, T.nG, ?_, ?_⟩
    · refine Nat.lt_of_le_of_lt (m := 2) ?_ (by decide)
      have e1 : putF "outputs" (.ref dl) (putF "inputs" (.ref di) []) = [(("inputs" : Str), V.ref di), ("outputs", .ref dl)] := (put_skip _ _ _ (by decide +kernel)).trans rfl
      rw [e1]
      exact Nat.le_refl _
    refine q _ ⟨x, dx, di, dl, dg⟩ rfl rfl hdi hdl hdg n6 (Eq.trans upd_same (congrArg (fun q => some (HO.ins CN dx q)) (nF_new ⟨x, dx, di, dl, dg⟩))) ?_ ?_ ?_ ?_
    · rw [upd_ne (Ne.symm n1), upd_ne n6, upd_ne (Ne.symm n1), upd_ne n3, upd_ne (Ne.symm n1)]
      exact upd_same
    · rw [upd_ne (Ne.symm n2), upd_ne n5, upd_ne (Ne.symm n2)]
      exact upd_same
    · rw [upd_ne (Ne.symm n4)]
      exact upd_same
    · intro b o e hb
      rw [upd_ne hb, upd_ne (ne_of_none e hdg), upd_ne hb, upd_ne (ne_of_none e hdl), upd_ne hb, upd_ne (ne_of_none e hdi)]
      exact e
end
end GN
namespace GN
open PySem PySem.Spec PyProof.Rows L2
section
variable {P : Program} {w : World} {K : PySem.W.Frag} {mg : Str → Option Value} {base : Heap} {CF CG CN : Addr}
theorem Same.upd_new {H H' : Hp} {p : Addr} {o : HO} (s : Same H H') (h : H p = none) : Same H (upd H' p o) := fun b u e => by
  rw [upd_ne (ne_of_none e h)]
  exact s b u e
theorem Same.upd_own {H : Hp} {p : Addr} {o : HO} (h : H p = none) : Same H (upd H p o) := fun b u e => by
  rw [upd_ne (ne_of_none e h)]
  exact e
/-! ### is_given -/
def spIsGiven (CN : Addr) : Sp := fun vs H Q _ => ∃ (A : NAd) (p : PN) (tb : List GR) (z : Str), vs = [.ref A.a, .str z] ∧ H A.a = some (.ins CN A.dx (nF A)) ∧ Rd H A.di (.dK (insK p.ins)) ∧ Rd H A.dg (.dK (gatesK tb)) ∧
  p.gn = (tb.map fun r => r.pg.name) ∧ Q (.bl (p.given z)) H
theorem scIG : FnScope ["network", "name"] ["network", "name"] (defScope sIsGiven) := ⟨rfl, rfl, rfl, by decide +kernel, rfl, by decide +kernel, by decide +kernel⟩
theorem ok_isGiven {f : Addr} {fd : FuncData} (F : Fun K "is_given" "is_given" sIsGiven f fd) (T : Txt K mg CF CG CN) : FnOk P w K mg base CX0 1 f fd ["network", "name"] (spIsGiven CN) := by
  refine F.ok scIG (fun vs H Q E h => ?_) (fun cdv A outer s H vs Q E hr h => ?_)
  · obtain ⟨A, p, tb, z, rfl, _⟩ := h
    rfl
  · obtain ⟨A, p, tb, z, rfl, ho, hi, hg, hn, q⟩ := h
    refine ⟨_, pss_one (ps_ret (pe_or (pe_cmp (pc_din (hu_of hr) (pv 1) (pe_fld (pv 0) rfl))) (pe_one (pe_cmp (pc_din (hu_of hr) (pv 1) (pe_fld (pv 0) rfl)))))), ?_⟩
    refine ⟨_, rfl, _, rfl, A.a, CN, A.dx, _, _, rfl, ho, T.cN, T.nI, nF_in A, A.di, _, rfl, .inl ⟨_, Sum.inr z, hi, rfl, rfl⟩, _, rfl, ?_⟩
    rw [valV_in]
    unfold PN.given at q
    by_cases h1 : z ∈ p.ins
    · rw [decide_eq_true h1] at q ⊢
      exact if_t rfl q
    · rw [decide_eq_false h1] at q ⊢
      refine if_f rfl ?_
      refine ⟨_, rfl, _, rfl, A.a, CN, A.dx, _, _, rfl, ho, T.cN, T.nG, nF_gates A, A.dg, _, rfl, .inl ⟨_, Sum.inr z, hg, rfl, rfl⟩, ?_⟩
      rw [valV_gates, ← hn]
      rw [Bool.false_or] at q
      exact q
/-! ### is_name -/
def spIsName : Sp := fun vs H Q _ => ∃ (z : Str), vs = [.str z] ∧ 1 ≤ z.length ∧ z.length ≤ 65536 ∧ ∀ H', Same H H' → Q (.bl (pname z)) H'
theorem scNm : FnScope ["word", "sign"] ["word"] (defScope sIsName) := ⟨rfl, rfl, rfl, by decide +kernel, rfl, by decide +kernel, by decide +kernel⟩
theorem ok_isName {f : Addr} {fd : FuncData} (F : Fun K "is_name" "is_name" sIsName f fd) (T : Txt K mg CF CG CN) : FnOk P w K mg base CX0 1 f fd ["word"] spIsName := by
  obtain ⟨t1, m1⟩ := T.mLong
  obtain ⟨t2, m2⟩ := T.sLet
  obtain ⟨t3, m3⟩ := T.sSig
  refine F.ok scNm (fun vs H Q E h => ?_) (fun cdv A outer s H vs Q E hr h => ?_)
  · obtain ⟨z, rfl, _⟩ := h
    rfl
  · obtain ⟨z, rfl, hz1, hz2, q⟩ := h
    have hz : z.length ≤ sizeLine := Nat.le_trans hz2 (by decide)
    have hsz : z.cps.toList.length = z.length := by simp [Str.length]
    obtain ⟨c, r, hc⟩ : ∃ c r, z.cps.toList = c :: r := by
      cases e : z.cps.toList with
      | nil => rw [e] at hsz; simp at hsz; omega
      | cons c r => exact ⟨c, r, rfl⟩
    refine ⟨_, pss_cons (ps_if (PW.pt (pw_or (pt_cmpR op_eq (pv 0) pe_str (nomark _)) (pw_or1 (pt_cmpR op_eq (pv 0) pe_str (nomark _))))) (pss_one (ps_ret pe_bl)) pss_nil)
      (pss_cons (ps_if (PW.pt (pw_or (pt_cmpR op_gt (pe_callB call_len_str (by rfl) T.len PySem.boot_len (pa_cons (pv 0) pa_nil)) (pe_glob rfl m1 (v := .int 15) ⟨_, rfl⟩) (nomark _))
          (pw_or1 (pt_cmpR op_notIn_sign (pe_ix ix_str (pv 0) pe_int (fun _ _ => rfl)) (pe_glob rfl m2 (v := .str "abcdefghijklmnopqrstuvwxyz") ⟨_, rfl⟩) rfl)))) (pss_one (ps_ret pe_bl)) pss_nil)
      (pss_one (ps_ret (pe_callB (cr_all rfl) (by rfl) T.all (by decide +kernel) (pa_cons (pe_lc (own := [("sign", 1)]) (g := gName 1) (tt := tYes) (by rfl) scNm.nd (pi_str (pv 0))
        (blkOk_by (own := [("sign", 1)]) (N := ["word", "sign"]) (sc := defScope sIsName) (by decide +kernel)) (fun _ _ _ _ _ => pg_name (i := 1) scNm.nd rfl (Or.inl rfl)) (fun _ _ _ _ _ => pts_nil)
        (fun _ _ _ _ _ => pe_cmpR op_in_sign (pv 1) (pe_glob rfl m3 (v := .str "abcdefghijklmnopqrstuvwxyz0123456789_") ⟨_, rfl⟩) rfl)) pa_nil))))), ?_⟩
    have q0 := q H (Same.refl H)
    refine ⟨_, rfl, rfl, _, rfl, ?_⟩
    by_cases h1 : z = sIn
    · refine if_t (decide_eq_true (congrArg V.str h1)) (if_t rfl ?_)
      unfold pname at q0
      rw [if_pos (.inl h1)] at q0
      exact q0
    refine if_f (decide_eq_false fun e => h1 (V.str.inj e)) ?_
    refine ⟨_, rfl, rfl, _, rfl, ?_⟩
    by_cases h2 : z = sOut
    · refine if_t (decide_eq_true (congrArg V.str h2)) ?_
      unfold pname at q0
      rw [if_pos (.inr h2)] at q0
      exact q0
    refine if_f (decide_eq_false fun e => h2 (V.str.inj e)) ?_
    have n12 : ¬ (z = sIn ∨ z = sOut) := by
      rintro (e | e)
      · exact h1 e
      · exact h2 e
    unfold pname at q0
    rw [if_neg n12] at q0
    refine ⟨_, rfl, z, rfl, hz, _, _, rfl, rfl, _, rfl, ?_⟩
    by_cases h3 : z.length > 15
    · refine if_t (decide_eq_true (by omega)) (if_t rfl ?_)
      rw [if_pos (.inl h3)] at q0
      exact q0
    refine if_f (decide_eq_false (by omega)) ?_
    refine ⟨_, rfl, z, _, c, rfl, rfl, hz, atI_nat (j := 0) (by rw [hc]; rfl), c, _, rfl, rfl, _, rfl, ?_⟩
    by_cases h4 : c ∈ letters
    · refine if_f (by show (!decide (c ∈ letters)) = false; rw [decide_eq_true h4]; rfl) ?_
      have n34 : ¬ (z.length > 15 ∨ ¬ z.cps.toList.headD 0 ∈ letters) := by
        rintro (e | e)
        · exact h3 e
        · rw [hc] at e
          exact e h4
      refine ⟨_, rfl, _, rfl, fun D hD => lc_it (walk_str (z := z)) (fun i H' => Same H H' ∧ H' D = some (.lst ((z.cps.toList.take i).map fun c => V.bl (decide (c ∈ signs))))) ?_ (fun _ _ _ _ => trivial) ?_ ?_⟩
      · exact ⟨Same.upd_own hD, upd_same⟩
      · rintro i x H' H2 hi ⟨s1, h5⟩ ⟨rfl, c', hc', rfl⟩
        refine ⟨rfl, _, rfl, c', _, rfl, rfl, _, h5, ?_, ?_⟩
        · rw [List.length_map, List.length_take]
          refine Nat.lt_of_le_of_lt (Nat.min_le_left _ _) (Nat.lt_of_lt_of_le hi ?_)
          exact hz
        · refine ⟨Same.upd_new s1 hD, ?_⟩
          have e : z.cps.toList[i]? = some c' := by
            rw [Array.getElem?_toList]
            exact hc'
          rw [upd_same, List.take_add_one, e, List.map_append]
          rfl
      · rintro H' ⟨s1, h5⟩
        have hall : z.cps.toList.take z.cps.size = z.cps.toList := List.take_of_length_le (by simp)
        rw [hall] at h5
        refine ⟨D, z.cps.toList.map fun c => decide (c ∈ signs), rfl, SqL.of (by rw [h5, List.map_map]; rfl), ?_⟩
        have q1 := q H' s1
        unfold pname at q1
        rw [if_neg n12, if_neg n34] at q1
        rw [List.all_map]
        exact q1
    · refine if_t (by show (!decide (c ∈ letters)) = true; rw [decide_eq_false h4]; rfl) ?_
      rw [if_pos (.inr (by rw [hc]; exact h4))] at q0
      exact q0
end
end GN
namespace GN
open PySem PySem.Spec PyProof.Rows L2
theorem cut_from (xs : List V) (k : Nat) : cutV xs (some (k : Int)) none = xs.drop k := by
  unfold cutV
  rw [HT.sIx_nat, HT.sIx_none]
  by_cases h : k ≤ xs.length
  · rw [Nat.min_eq_left h]
    exact List.take_of_length_le (by rw [List.length_drop]; exact Nat.le_refl _)
  · rw [Nat.min_eq_right (by omega), List.drop_of_length_le (Nat.le_refl _), List.drop_of_length_le (by omega)]
    simp
theorem fold_step {σ α : Type} {f : σ → α → Option σ} : ∀ {l : List α} {i : Nat} {z : α} {s s' : σ}, l[i]? = some z → (l.take i).foldlM f s = some s' → (l.take (i + 1)).foldlM f s = f s' z ∧ (f s' z = none → l.foldlM f s = none)
  | [], i, z, s, s', h, _ => by simp at h
  | a :: l, 0, z, s, s', h, e => by
    have e1 : a = z := Option.some.inj h
    have e2 : s = s' := Option.some.inj e
    subst e1 e2
    refine ⟨?_, fun q => ?_⟩
    · show ([a] : List α).foldlM f s = _
      simp
    · rw [List.foldlM_cons, q]
      rfl
  | a :: l, i + 1, z, s, s', h, e => by
    rw [List.take_succ_cons, List.foldlM_cons] at e ⊢
    rw [List.foldlM_cons]
    cases q : f s a with
    | none => rw [q] at e; cases e
    | some m =>
      rw [q] at e
      exact fold_step (l := l) (i := i) (z := z) (s := m) (s' := s') (by simpa using h) e
theorem str_item {l : List Str} {i : Nat} {x : V} (h : (l.map V.str)[i]? = some x) : ∃ z, l[i]? = some z ∧ x = V.str z := by
  rw [List.getElem?_map] at h
  cases e : l[i]? with
  | none => rw [e] at h; cases h
  | some z => rw [e] at h; exact ⟨z, rfl, (Option.some.inj h).symm⟩
/-- words as the program has them -/
def Wds (ws : List Str) : Prop := ∀ z ∈ ws, 1 ≤ z.length ∧ z.length ≤ 65536
theorem insK_snoc (l : List Str) (z : Str) : insK (l ++ [z]) = insK l ++ [(Sum.inr z, V.int (l.length : Nat))] := by
  unfold insK
  rw [List.zipIdx_append, List.map_append]
  simp
theorem gatesK_snoc (l : List GR) (r : GR) : gatesK (l ++ [r]) = gatesK l ++ [(Sum.inr r.pg.name, V.ref r.ga)] := by
  unfold gatesK
  rw [List.map_append]
  rfl
theorem isNone_of {o : Option V} (h : o.isSome = false) : o = none := by
  cases o with
  | none => rfl
  | some _ => cases h
theorem fresh_not {p : PN} {z : Str} (h : p.fresh z = true) : z ∉ p.ins ∧ z ∉ p.gn := by
  unfold PN.fresh PN.given at h
  simp only [Bool.and_eq_true, Bool.not_eq_true', Bool.or_eq_false_iff, decide_eq_false_iff_not] at h
  exact h.2
/-- a register's first bit -/
def rc (z : Str) : Option Nat := if z = kReg then some 0 else if z = kReg1 then some 1 else none
theorem rc_reg (z : Str) : (rc z).isSome = isRegS z := by
  unfold rc isRegS
  by_cases h1 : z = kReg
  · rw [if_pos h1, decide_eq_true h1]
    rfl
  · rw [if_neg h1, decide_eq_false h1]
    by_cases h2 : z = kReg1
    · rw [if_pos h2, decide_eq_true h2]
      rfl
    · rw [if_neg h2, decide_eq_false h2]
      rfl
/-- what the top has written of its dicts -/
structure Txt2 (K : PySem.W.Frag) (mg : Str → Option Value) (w : World) (dk rg : Addr) : Prop where
  gK : mg "SOURCES_OF_KIND" = some (.ref dk)
  dK : ∃ es n, KDict K w dk es n
  at_ : ∀ z : Str, ∃ r, PySem.W.nsIn K dk z = some r ∧ (match kc z with | some c => ∃ t, r = some (.int (c : Nat) t) | none => r = none)
  gR : mg "FIRST_BIT_OF_REGISTER" = some (.ref rg)
  dR : ∃ es n, KDict K w rg es n
  atR : ∀ z : Str, ∃ r, PySem.W.nsIn K rg z = some r ∧ (match rc z with | some c => ∃ t, r = some (.int (c : Nat) t) | none => r = none)
section
variable {P : Program} {w : World} {K : PySem.W.Frag} {mg : Str → Option Value} {base : Heap} {CF CG CN dk rg : Addr}
/-! ### a network that has more -/
theorem NOk.putIn {H : Hp} {A : NAd} {p : PN} {tb : List GR} {z : Str} (n : NOk CN CG H A p tb) (hz : z ∉ p.ins) :
    NOk CN CG (upd H A.di (.dK (putK (insK p.ins) (Sum.inr z) (.int (p.ins.length : Nat))))) A { p with ins := p.ins ++ [z] } tb := by
  have e : putK (insK p.ins) (Sum.inr z) (.int (p.ins.length : Nat)) = insK (p.ins ++ [z]) := by
    rw [insK_snoc]
    exact putK_new _ (isNone_of (by rw [valV_in]; exact decide_eq_false hz))
  rw [e]
  have h1 : A.a ≠ A.di := ne_of n.ob n.ins (by intro z; cases z)
  have h2 : A.dl ≠ A.di := ne_of n.outs n.ins (by intro z; cases z)
  refine ⟨by rw [upd_ne h1]; exact n.ob, upd_same, by rw [upd_ne h2]; exact n.outs, by rw [upd_ne (Ne.symm n.apart)]; exact n.gates, n.apart, n.row, fun r hr => ?_, n.free⟩
  have g := n.each r hr
  exact ⟨by rw [upd_ne (ne_of g.ob n.ins (by intro z; cases z))]; exact g.ob, by rw [upd_ne (ne_of g.src n.ins (by intro z; cases z))]; exact g.src⟩
theorem NOk.putOut {H : Hp} {A : NAd} {p : PN} {tb : List GR} {l : List Str} (n : NOk CN CG H A p tb) :
    NOk CN CG (upd H A.dl (.lst (p.outs.map V.str ++ l.map V.str))) A { p with outs := p.outs ++ l } tb := by
  rw [← List.map_append]
  have h1 : A.a ≠ A.dl := ne_of n.ob n.outs (by intro z; cases z)
  have h2 : A.di ≠ A.dl := ne_of n.ins n.outs (by intro z; cases z)
  have h3 : A.dg ≠ A.dl := ne_of n.gates n.outs (by intro z; cases z)
  refine ⟨by rw [upd_ne h1]; exact n.ob, by rw [upd_ne h2]; exact n.ins, upd_same, by rw [upd_ne h3]; exact n.gates, n.apart, n.row, fun r hr => ?_, n.free⟩
  have g := n.each r hr
  exact ⟨by rw [upd_ne (ne_of g.ob n.outs (by intro z; cases z))]; exact g.ob, by rw [upd_ne (n.free r hr)]; exact g.src⟩
theorem NOk.putGate {H : Hp} {A : NAd} {p : PN} {tb : List GR} {r : GR} (n : NOk CN CG H A p tb) (g : GAt CG H r) (hf : r.sa ≠ A.dl) (hz : r.pg.name ∉ p.gn) :
    NOk CN CG (upd H A.dg (.dK (putK (gatesK tb) (Sum.inr r.pg.name) (.ref r.ga)))) A { p with gates := p.gates ++ [r.pg] } (tb ++ [r]) := by
  have e : putK (gatesK tb) (Sum.inr r.pg.name) (.ref r.ga) = gatesK (tb ++ [r]) := by
    rw [gatesK_snoc]
    exact putK_new _ (isNone_of (by rw [valV_gates, ← n.gn]; exact decide_eq_false hz))
  rw [e]
  have h1 : A.a ≠ A.dg := ne_of n.ob n.gates (by intro z; cases z)
  have h2 : A.dl ≠ A.dg := ne_of n.outs n.gates (by intro z; cases z)
  refine ⟨by rw [upd_ne h1]; exact n.ob, by rw [upd_ne n.apart]; exact n.ins, by rw [upd_ne h2]; exact n.outs, upd_same, n.apart, ?_, fun x hx => ?_, fun x hx => ?_⟩
  · show p.gates ++ [r.pg] = _
    rw [n.row, List.map_append]
    rfl
  · have gx : GAt CG H x := by
      rcases List.mem_append.mp hx with h | h
      · exact n.each x h
      · rw [List.mem_singleton.mp h]; exact g
    exact ⟨by rw [upd_ne (ne_of gx.ob n.gates (by intro z; cases z))]; exact gx.ob, by rw [upd_ne (ne_of gx.src n.gates (by intro z; cases z))]; exact gx.src⟩
  · rcases List.mem_append.mp hx with h | h
    · exact n.free x h
    · rw [List.mem_singleton.mp h]; exact hf
/-! ### refuse_as_new -/
def spNew (CF CN CG : Addr) : Sp := fun vs H Q E => ∃ (A : NAd) (p : PN) (tb : List GR) (z : Str), vs = [.ref A.a, .str z] ∧ NOk CN CG H A p tb ∧ 1 ≤ z.length ∧ z.length ≤ 65536 ∧
  (p.fresh z = false → Raised CF E) ∧ (p.fresh z = true → ∀ H', Same H H' → Q .non H')
theorem scNew : FnScope ["network", "word"] ["network", "word"] (defScope sNew) := ⟨rfl, rfl, rfl, by decide +kernel, rfl, by decide +kernel, by decide +kernel⟩
theorem ok_new {f fN fG : Addr} {fd fdN fdG : FuncData} (F : Fun K "refuse_as_new" "refuse_as_new" sNew f fd) (T : Txt K mg CF CG CN)
    (FN : Fun K "is_name" "is_name" sIsName fN fdN) (bN : Binds K fdN ["word"] []) (mN : mg "is_name" = some (.ref fN))
    (FG : Fun K "is_given" "is_given" sIsGiven fG fdG) (bG : Binds K fdG ["network", "name"] []) (mG : mg "is_given" = some (.ref fG)) : FnOk P w K mg base (L2.CX P w) 2 f fd ["network", "word"] (spNew CF CN CG) := by
  have GN : FnOk P w K mg base CX0 1 fN fdN ["word"] spIsName := ok_isName FN T
  have GG : FnOk P w K mg base CX0 1 fG fdG ["network", "name"] (spIsGiven CN) := ok_isGiven FG T
  refine F.okX scNew (fun vs H Q E h => ?_) (fun cdv A outer s H vs Q E hr h => ?_)
  · obtain ⟨A, p, tb, z, rfl, _⟩ := h
    rfl
  · obtain ⟨A, p, tb, z, rfl, n, h1, h2, kN, kS⟩ := h
    refine ⟨_, pss_one (ps_if (PW.pt (pw_or (pt_not (pt_val (pe_call GN hr rfl mN FN.kp bN .nil pass0 (pa_cons (pv 1) pa_nil))))
        (pw_or1 (pt_val (pe_call GG hr rfl mG FG.kp bG .nil pass0 (pa_cons (pv 0) (pa_cons (pv 1) pa_nil)))))))
      (pss_one (ps_raise rfl (takes_of rfl rfl rfl rfl) (pmk_own0 PySem.F.excBase_ValueError T.xF T.gF T.kF (raises_own T.bF T.tF) rfl))) pss_nil), ?_⟩
    unfold PN.fresh at kN kS
    refine ⟨_, rfl, z, rfl, h1, h2, fun H1 s1 => ⟨_, rfl, ?_⟩⟩
    cases e1 : pname z with
    | false =>
      rw [e1] at kN
      exact if_t rfl (if_t rfl (kN rfl H1))
    | true =>
      rw [e1] at kN kS
      refine if_f rfl ?_
      have n1 := n.same s1
      refine ⟨_, rfl, _, rfl, A, p, tb, z, rfl, n1.ob, .inl n1.ins, .inl n1.gates, n1.gn, _, rfl, ?_⟩
      cases e2 : p.given z with
      | true =>
        rw [e2] at kN
        exact if_t rfl (kN rfl H1)
      | false =>
        rw [e2] at kS
        exact if_f rfl (kS rfl H1 s1)
/-! ### add_inputs -/
def spAddIn (CF CN CG : Addr) : Sp := fun vs H Q E => ∃ (A : NAd) (p : PN) (tb : List GR) (la : Addr) (l : List Str), vs = [.ref A.a, .ref la] ∧ NOk CN CG H A p tb ∧ H la = some (.lst (l.map V.str)) ∧ Wds l ∧ p.sz + l.length ≤ 200000 ∧
  (l = [] ∨ l.foldlM pIn p = none → Raised CF E) ∧ (∀ p', l ≠ [] → l.foldlM pIn p = some p' → ∀ H', NOk CN CG H' A p' tb → Keep A H H' → Q .non H')
theorem scAI : FnScope ["network", "names", "name"] ["network", "names"] (defScope sAddIn) := ⟨rfl, rfl, rfl, by decide +kernel, rfl, by decide +kernel, by decide +kernel⟩
theorem take_sz {l : List Str} {i : Nat} {p q : PN} (e : (l.take i).foldlM pIn p = some q) : q.sz ≤ p.sz + l.length := by
  rw [pIns_sz e, List.length_take]
  omega
theorem ok_addIn {f fW : Addr} {fd fdW : FuncData} (F : Fun K "add_inputs" "add_inputs" sAddIn f fd) (T : Txt K mg CF CG CN)
    (GW : FnOk P w K mg base (L2.CX P w) 2 fW fdW ["network", "word"] (spNew CF CN CG)) (kW : PySem.W.keepIn K (.ref fW) = true) (bW : Binds K fdW ["network", "word"] []) (mW : mg "refuse_as_new" = some (.ref fW)) :
    FnOk P w K mg base (L2.CX P w) 3 f fd ["network", "names"] (spAddIn CF CN CG) := by
  refine F.okX scAI (fun vs H Q E h => ?_) (fun cdv A outer s H vs Q E hr h => ?_)
  · obtain ⟨A, p, tb, la, l, rfl, _⟩ := h
    rfl
  · obtain ⟨A, p, tb, la, l, rfl, n, hl, hw, hz, kN, kS⟩ := h
    refine ⟨_, pss_cons (ps_if (pt_cmpR op_eq (pe_callB call_len_seq (by rfl) T.len PySem.boot_len (pa_cons (pv 1) pa_nil)) pe_int (nomark _))
        (pss_one (ps_raise rfl (takes_of rfl rfl rfl rfl) (pmk_own0 PySem.F.excBase_ValueError T.xF T.gF T.kF (raises_own T.bF T.tF) rfl))) pss_nil)
      (pss_one (ps_for (passes_of rfl) rfl (pi_list (pv 1)) (pg_name (i := 2) scAI.nd rfl (.inl rfl))
        (pss_cons (ps_expr (pe_callS GW hr rfl mW kW bW (fun σ => passAt (takes_of rfl rfl rfl rfl) σ) (pa_cons (pv 0) (pa_cons (pv 2) pa_nil))))
          (pss_one (ps_dput (hu_of hr) (pe_fld (pv 0) rfl) (pv 2) (pe_callB call_lenD (by rfl) T.len PySem.boot_len (pa_cons (pe_fld (pv 0) rfl) pa_nil)) rfl))))), ?_⟩
    refine ⟨_, rfl, la, _, rfl, .inl (SqL.of hl), rfl, _, rfl, ?_⟩
    by_cases h0 : l = []
    · refine if_t (decide_eq_true (by rw [h0]; rfl)) (kN (.inl h0) H)
    refine if_f (decide_eq_false fun e => h0 ?_) ?_
    · have e' := V.int.inj e
      rw [List.length_map] at e'
      exact List.length_eq_zero_iff.mp (by omega)
    refine ⟨_, rfl, la, rfl, ⟨_, SqL.of hl⟩, for_list (K := K) (a := la) (xs := l.map V.str)
      (fun i σ H' => ∃ v p', σ = [some (.ref A.a), some (.ref la), v] ∧ (l.take i).foldlM pIn p = some p' ∧ NOk CN CG H' A p' tb ∧ (∀ b o, H b = some o → b ≠ A.di → H' b = some o)) ?_ ?_ ?_ ?_⟩
    · exact ⟨none, p, rfl, rfl, n, fun _ _ e _ => e⟩
    · rintro i σ H' _ ⟨v, p', rfl, _, _, k⟩
      exact SqL.of (k _ _ hl (ne_of hl n.ins (by intro z; cases z)))
    · rintro i x σ H' hi ⟨v, p', rfl, ef, n', k⟩
      obtain ⟨z, hzi, rfl⟩ := str_item hi
      have hzm : z ∈ l := List.mem_of_getElem? hzi
      obtain ⟨st1, st2⟩ := fold_step hzi ef
      have hsz := take_sz ef
      refine ⟨_, rfl, _, rfl, A, p', tb, z, rfl, n', (hw z hzm).1, (hw z hzm).2, fun e => ?_, fun e H2 s2 => ?_⟩
      · refine kN (.inr (st2 ?_))
        unfold pIn
        rw [e]
        rfl
      · have n2 := n'.same s2
        refine ⟨_, rfl, A.a, CN, A.dx, _, _, rfl, n2.ob, T.cN, T.nI, nF_in A, A.di, _, rfl, n2.ins, ?_⟩
        refine ⟨_, rfl, A.a, CN, A.dx, _, _, rfl, n2.ob, T.cN, T.nI, nF_in A, _, rfl, A.di, _, rfl, DPut.k (k := Sum.inr z) n2.ins ?_, ?_⟩
        · rw [insK_len]
          unfold PN.sz at hsz hz
          exact Nat.lt_of_le_of_lt (show p'.ins.length ≤ 200000 by omega) (by decide)
        refine ⟨_, _, rfl, ?_, (by rw [insK_len]; exact n2.putIn (fresh_not e).1), fun b o q hb => ?_⟩
        · rw [st1]
          exact if_pos e
        · rw [upd_ne hb]
          exact s2 _ _ (k b o q hb)
    · rintro σ H' ⟨v, p', rfl, ef, n', k⟩
      rw [List.length_map, List.take_length] at ef
      exact kS p' h0 ef H' n' fun b o e h1 _ _ => k b o e h1
/-! ### add_outputs -/
def spAddOut (CF CN CG : Addr) : Sp := fun vs H Q E => ∃ (A : NAd) (p : PN) (tb : List GR) (la : Addr) (l : List Str), vs = [.ref A.a, .ref la] ∧ NOk CN CG H A p tb ∧ H la = some (.lst (l.map V.str)) ∧ p.sz + l.length ≤ 200000 ∧
  (l = [] → Raised CF E) ∧ (l ≠ [] → ∀ H', NOk CN CG H' A { p with outs := p.outs ++ l } tb → Keep A H H' → Q .non H')
theorem scAO : FnScope ["network", "names"] ["network", "names"] (defScope sAddOut) := ⟨rfl, rfl, rfl, by decide +kernel, rfl, by decide +kernel, by decide +kernel⟩
theorem ok_addOut {f : Addr} {fd : FuncData} (F : Fun K "add_outputs" "add_outputs" sAddOut f fd) (T : Txt K mg CF CG CN) : FnOk P w K mg base (L2.CX P w) 1 f fd ["network", "names"] (spAddOut CF CN CG) := by
  refine F.okX scAO (fun vs H Q E h => ?_) (fun cdv A outer s H vs Q E hr h => ?_)
  · obtain ⟨A, p, tb, la, l, rfl, _⟩ := h
    rfl
  · obtain ⟨A, p, tb, la, l, rfl, n, hl, hz, kN, kS⟩ := h
    refine ⟨_, pss_cons (ps_if (pt_cmpR op_eq (pe_callB call_len_seq (by rfl) T.len PySem.boot_len (pa_cons (pv 1) pa_nil)) pe_int (nomark _))
        (pss_one (ps_raise rfl (takes_of rfl rfl rfl rfl) (pmk_own0 PySem.F.excBase_ValueError T.xF T.gF T.kF (raises_own T.bF T.tF) rfl))) pss_nil)
      (pss_one (ps_expr (pe_bm PySem.F.plainAttrs_list PySem.F.slot_list_extend PySem.F.type_list_extend mt_extend (pe_fld (pv 0) rfl) (pa_cons (pv 1) pa_nil)))), ?_⟩
    refine ⟨_, rfl, la, _, rfl, .inl (SqL.of hl), rfl, _, rfl, ?_⟩
    by_cases h0 : l = []
    · refine if_t (decide_eq_true (by rw [h0]; rfl)) (kN h0 H)
    refine if_f (decide_eq_false fun e => h0 ?_) ?_
    · have e' := V.int.inj e
      rw [List.length_map] at e'
      exact List.length_eq_zero_iff.mp (by omega)
    refine ⟨_, rfl, A.a, CN, A.dx, _, _, rfl, n.ob, T.cN, T.nO, nF_out A, .inl ⟨rfl, _, SqL.of n.outs⟩, _, rfl, A.dl, la, _, _, rfl, rfl, n.outs, hl, ?_, ?_⟩
    · rw [List.length_map, List.length_map]
      unfold PN.sz at hz
      exact Nat.le_trans (show p.outs.length + l.length ≤ 200000 by omega) (by decide)
    · refine kS h0 _ n.putOut fun b o e _ h2 _ => ?_
      rw [upd_ne h2]
      exact e
end
end GN
namespace GN
open PySem PySem.Spec PyProof.Rows L2
section
variable {P : Program} {w : World} {K : PySem.W.Frag} {mg : Str → Option Value} {base : Heap} {CF CG CN dk rg : Addr}
/-! ### add_gate -/
def pG (p : PN) (ws : List Str) : Option PN := match ws with
  | z :: e :: k :: a => pGate p z e k a
  | _ => none
def spAddGate (CF CN CG : Addr) : Sp := fun vs H Q E => ∃ (A : NAd) (p : PN) (tb : List GR) (la : Addr) (l : List Str), vs = [.ref A.a, .ref la] ∧ NOk CN CG H A p tb ∧ H la = some (.lst (l.map V.str)) ∧ Wds l ∧ p.sz + l.length ≤ 200000 ∧
  (pG p l = none → Raised CF E) ∧ (∀ p', pG p l = some p' → ∀ H' tb', NOk CN CG H' A p' tb' → Keep A H H' → Q .non H')
theorem scAG : FnScope ["network", "words", "name", "kind", "sources"] ["network", "words"] (defScope sAddGate) := ⟨rfl, rfl, rfl, by decide +kernel, rfl, by decide +kernel, by decide +kernel⟩
theorem ok_addGate {f fW fI : Addr} {fd fdW fdI : FuncData} (F : Fun K "add_gate" "add_gate" sAddGate f fd) (T : Txt K mg CF CG CN) (T2 : Txt2 K mg w dk rg)
    (GW : FnOk P w K mg base (L2.CX P w) 2 fW fdW ["network", "word"] (spNew CF CN CG)) (kW : PySem.W.keepIn K (.ref fW) = true) (bW : Binds K fdW ["network", "word"] []) (mW : mg "refuse_as_new" = some (.ref fW))
    (MG : Mk K CG fI) (FI : Fun K "__init__" "Gate.__init__" sGateInit fI fdI) (bI : Binds K fdI ["self", "kind", "sources"] []) :
    FnOk P w K mg base (L2.CX P w) 3 f fd ["network", "words"] (spAddGate CF CN CG) := by
  have GI : FnOk P w K mg base CX0 1 fI fdI ["self", "kind", "sources"] (spGateInit CG) := ok_gateInit FI T
  obtain ⟨es, en_, D⟩ := T2.dK
  refine F.okX scAG (fun vs H Q E h => ?_) (fun cdv A outer s H vs Q E hr h => ?_)
  · obtain ⟨A, p, tb, la, l, rfl, _⟩ := h
    rfl
  · obtain ⟨A, p, tb, la, l, rfl, n, hl, hw, hz, kN, kS⟩ := h
    refine ⟨_, pss_cons (ps_if (PW.pt (pw_or (pt_cmpR op_lt (pe_callB call_len_seq (by rfl) T.len PySem.boot_len (pa_cons (pv 1) pa_nil)) pe_int (nomark _))
          (pw_or (pt_cmpR op_ne (pe_ix ix_list (pv 1) pe_int (fun _ _ => rfl)) pe_str (nomark _))
            (pw_or1 (pt_cmpR (op_notIn_kd D) (pe_ix ix_list (pv 1) pe_int (fun _ _ => rfl)) (pe_glob rfl T2.gK (v := .ref dk) rfl) (by rfl))))))
        (pss_one (ps_raise rfl (takes_of rfl rfl rfl rfl) (pmk_own0 PySem.F.excBase_ValueError T.xF T.gF T.kF (raises_own T.bF T.tF) rfl))) pss_nil)
      (pss_cons (ps_set (i := 2) scAG.nd rfl (.inl rfl) (pe_ix ix_list (pv 1) pe_int (fun _ _ => rfl)))
      (pss_cons (ps_set (i := 3) scAG.nd rfl (.inl rfl) (pe_ix ix_list (pv 1) pe_int (fun _ _ => rfl)))
      (pss_cons (ps_set (i := 4) scAG.nd rfl (.inl rfl) (pe_slice sl_list (pv 1) (po_some pe_int) po_none))
      (pss_cons (ps_if (pt_cmpR op_ne (pe_callB call_len_seq (by rfl) T.len PySem.boot_len (pa_cons (pv 4) pa_nil)) (pe_ix ix_kdict (pe_glob rfl T2.gK (v := .ref dk) rfl) (pv 3) (fun _ _ => rfl)) (nomark _))
        (pss_one (ps_raise rfl (takes_of rfl rfl rfl rfl) (pmk_own0 PySem.F.excBase_ValueError T.xF T.gF T.kF (raises_own T.bF T.tF) rfl))) pss_nil)
      (pss_cons (ps_expr (pe_callS GW hr rfl mW kW bW (fun σ => passAt (takes_of rfl rfl rfl rfl) σ) (pa_cons (pv 0) (pa_cons (pv 2) pa_nil))))
      (pss_one (ps_dput (hu_of hr) (pe_fld (pv 0) rfl) (pv 2) (pe_make MG GI hr rfl T.gG bI .nil pass0 (pa_cons (pv 3) (pa_cons (pv 4) pa_nil))) rfl))))))), ?_⟩
    refine ⟨_, rfl, la, _, rfl, .inl (SqL.of hl), _, _, rfl, rfl, _, rfl, ?_⟩
    rw [List.length_map]
    match l, hl, hw, hz, kN, kS with
    | [], hl, hw, hz, kN, kS => exact if_t rfl (if_t rfl (kN rfl H))
    | [_], hl, hw, hz, kN, kS => exact if_t rfl (if_t rfl (kN rfl H))
    | [_, _], hl, hw, hz, kN, kS => exact if_t rfl (if_t rfl (kN rfl H))
    | z :: e :: k :: a, hl, hw, hz, kN, kS =>
      refine if_f (decide_eq_false (by simp only [List.length_cons]; omega)) ?_
      refine ⟨_, rfl, la, _, _, _, rfl, rfl, SqL.of hl, atI_nat (j := 1) rfl, rfl, _, rfl, ?_⟩
      have kN' : pGate p z e k a = none → Raised CF E := kN
      have kS' : ∀ p', pGate p z e k a = some p' → ∀ H' tb', NOk CN CG H' A p' tb' → Keep A H H' → Q .non H' := kS
      unfold pGate at kN' kS'
      by_cases he : e = sEq
      · rw [if_pos he] at kN' kS'
        refine if_f (by rw [decide_eq_true (congrArg V.str he)]; rfl) ?_
        obtain ⟨r, hr1, hr2⟩ := T2.at_ k
        refine ⟨_, rfl, la, _, _, _, rfl, rfl, SqL.of hl, atI_nat (j := 2) rfl, k, r, rfl, rfl, hr1, _, rfl, ?_⟩
        cases hk : kc k with
        | none =>
          rw [hk] at hr2 kN'
          subst hr2
          exact if_t rfl (kN' rfl H)
        | some c =>
          rw [hk] at hr2 kN' kS'
          obtain ⟨t, rfl⟩ := hr2
          refine if_f rfl ?_
          refine ⟨_, rfl, la, _, _, _, rfl, rfl, SqL.of hl, atI_nat (j := 0) rfl, ?_⟩
          refine ⟨_, rfl, la, _, _, _, rfl, rfl, SqL.of hl, atI_nat (j := 2) rfl, ?_⟩
          refine ⟨_, rfl, _, rfl, la, _, rfl, SqL.of hl, fun sa hsa => ?_⟩
          have ecut : cutV ((z :: e :: k :: a).map V.str) (some 3) none = a.map V.str := cut_from _ 3
          rw [ecut]
          have s1 : Same H (upd H sa (.lst (a.map V.str))) := Same.upd_own hsa
          refine ⟨_, rfl, sa, _, rfl, .inl (SqL.of upd_same), _, rfl, dk, k, .int (c : Nat), rfl, rfl, ⟨es, en_, _, D.at_, D.lit, hr1, ⟨t, rfl⟩⟩, rfl, _, rfl, ?_⟩
          rw [List.length_map]
          by_cases hc : a.length = c
          · refine if_f (by rw [decide_eq_true (by rw [hc])]; rfl) ?_
            have hw0 := hw z List.mem_cons_self
            refine ⟨_, rfl, _, rfl, A, p, tb, z, rfl, n.same s1, hw0.1, hw0.2, fun ef => ?_, fun ef H2 s2 => ?_⟩
            · refine kN' ?_
              show (if a.length = c ∧ p.fresh z = true then some ({ p with gates := p.gates ++ [PG.mk z k a] } : PN) else none) = none
              rw [if_neg (fun q => by rw [ef] at q; exact absurd q.2 Bool.false_ne_true)]
            · have s3 : Same H H2 := s1.trans s2
              refine ⟨_, rfl, _, rfl, fun x dx nx nd ne => ?_⟩
              refine ⟨x, dx, sa, k, rfl, upd_same, fun H3 hx hk3 hk4 => ⟨rfl, ?_⟩⟩
              have s4 : Same H2 H3 := Same.made nx nd hk3
              have n3 := n.same (s3.trans s4)
              refine ⟨_, rfl, A.a, CN, A.dx, _, _, rfl, n3.ob, T.cN, T.nG, nF_gates A, _, rfl, A.dg, _, rfl, DPut.k (k := Sum.inr z) n3.gates ?_, ?_⟩
              · rw [gatesK_len]
                have : tb.length = p.gates.length := by rw [n.row, List.length_map]
                unfold PN.sz at hz
                exact Nat.lt_of_le_of_lt (show tb.length ≤ 200000 by omega) (by decide)
              refine kS' _ (if_pos ⟨hc, ef⟩) _ _ (NOk.putGate (r := ⟨⟨z, k, a⟩, x, dx, sa⟩) n3 ⟨hx, s4 _ _ (s2 _ _ upd_same)⟩ (Ne.symm (ne_of_none n.outs hsa)) (fresh_not ef).2) fun b o q _ _ h3 => ?_
              rw [upd_ne h3]
              exact s4 _ _ (s3 b o q)
          · refine if_t (by rw [decide_eq_false (fun q => hc (by have := V.int.inj q; omega))]; rfl) (kN' ?_ _)
            show (if a.length = c ∧ p.fresh z = true then some ({ p with gates := p.gates ++ [PG.mk z k a] } : PN) else none) = none
            rw [if_neg fun q => hc q.1]
      · rw [if_neg he] at kN'
        exact if_t (by rw [decide_eq_false fun q => he (V.str.inj q)]; rfl) (if_t rfl (kN' rfl H))
/-! ### read_line -/
theorem pLine_gate {p : PN} {z : Str} {r : List Str} (h1 : ¬ z = sIn) (h2 : ¬ z = sOut) : pLine p (z :: r) = pG p (z :: r) := by
  unfold pLine
  dsimp only
  rw [if_neg h1, if_neg h2]
  match r with
  | [] => rfl
  | [_] => rfl
  | _ :: _ :: _ => rfl
def spLine (CF CN CG : Addr) : Sp := fun vs H Q E => ∃ (A : NAd) (p : PN) (tb : List GR) (la : Addr) (l : List Str), vs = [.ref A.a, .ref la] ∧ NOk CN CG H A p tb ∧ H la = some (.lst (l.map V.str)) ∧ l ≠ [] ∧ Wds l ∧ p.sz + l.length ≤ 200000 ∧
  (pLine p l = none → Raised CF E) ∧ (∀ p', pLine p l = some p' → ∀ H' tb', NOk CN CG H' A p' tb' → Keep A H H' → Q .non H')
theorem scLn : FnScope ["network", "words"] ["network", "words"] (defScope sLine) := ⟨rfl, rfl, rfl, by decide +kernel, rfl, by decide +kernel, by decide +kernel⟩
theorem ok_line {f fi fo fg : Addr} {fd fdi fdo fdg : FuncData} (F : Fun K "read_line" "read_line" sLine f fd)
    (Gi : FnOk P w K mg base (L2.CX P w) 3 fi fdi ["network", "names"] (spAddIn CF CN CG)) (ki : PySem.W.keepIn K (.ref fi) = true) (bi : Binds K fdi ["network", "names"] []) (mi : mg "add_inputs" = some (.ref fi))
    (Go : FnOk P w K mg base (L2.CX P w) 1 fo fdo ["network", "names"] (spAddOut CF CN CG)) (ko : PySem.W.keepIn K (.ref fo) = true) (bo : Binds K fdo ["network", "names"] []) (mo : mg "add_outputs" = some (.ref fo))
    (Gg : FnOk P w K mg base (L2.CX P w) 3 fg fdg ["network", "words"] (spAddGate CF CN CG)) (kg : PySem.W.keepIn K (.ref fg) = true) (bg : Binds K fdg ["network", "words"] []) (mg_ : mg "add_gate" = some (.ref fg)) :
    FnOk P w K mg base (L2.CX P w) 4 f fd ["network", "words"] (spLine CF CN CG) := by
  refine F.okX scLn (fun vs H Q E h => ?_) (fun cdv A outer s H vs Q E hr h => ?_)
  · obtain ⟨A, p, tb, la, l, rfl, _⟩ := h
    rfl
  · obtain ⟨A, p, tb, la, l, rfl, n, hl, h0, hw, hz, kN, kS⟩ := h
    refine ⟨_, pss_one (ps_if (pt_cmpR op_eq (pe_ix ix_list (pv 1) pe_int (fun _ _ => rfl)) pe_str (nomark _))
        (pss_one (ps_expr (pe_callS Gi hr rfl mi ki bi (fun σ => passAt (takes_of rfl rfl rfl rfl) σ) (pa_cons (pv 0) (pa_cons (pe_slice sl_list (pv 1) (po_some pe_int) po_none) pa_nil)))))
        (pss_one (ps_if (pt_cmpR op_eq (pe_ix ix_list (pv 1) pe_int (fun _ _ => rfl)) pe_str (nomark _))
          (pss_one (ps_expr (pe_callS Go (hr.mono (by decide)) rfl mo ko bo (fun σ => passAt (takes_of rfl rfl rfl rfl) σ) (pa_cons (pv 0) (pa_cons (pe_slice sl_list (pv 1) (po_some pe_int) po_none) pa_nil)))))
          (pss_one (ps_expr (pe_callS Gg hr rfl mg_ kg bg (fun σ => passAt (takes_of rfl rfl rfl rfl) σ) (pa_cons (pv 0) (pa_cons (pv 1) pa_nil)))))))), ?_⟩
    match l, hl, h0, hw, hz, kN, kS with
    | [], hl, h0, hw, hz, kN, kS => exact absurd rfl h0
    | z :: r, hl, h0, hw, hz, kN, kS =>
      have kN0 := kN
      have kS0 := kS
      unfold pLine at kN kS
      dsimp only at kN kS
      have ecut : cutV ((z :: r).map V.str) (some 1) none = r.map V.str := cut_from _ 1
      have hwr : Wds r := fun x hx => hw x (List.mem_cons_of_mem _ hx)
      have hzr : p.sz + r.length ≤ 200000 := by rw [List.length_cons] at hz; omega
      refine ⟨_, rfl, la, _, _, _, rfl, rfl, SqL.of hl, atI_nat (j := 0) rfl, rfl, _, rfl, ?_⟩
      by_cases h1 : z = sIn
      · rw [if_pos h1] at kN
        simp only [if_pos h1] at kS
        refine if_t (decide_eq_true (congrArg V.str h1)) ?_
        refine ⟨_, rfl, _, rfl, _, rfl, la, _, rfl, SqL.of hl, fun sa hsa => ?_⟩
        rw [ecut]
        have s1 : Same H (upd H sa (.lst (r.map V.str))) := Same.upd_own hsa
        refine ⟨A, p, tb, sa, r, rfl, n.same s1, upd_same, hwr, hzr, fun q => ?_, fun p' hr0 e H' n' k' => ?_⟩
        · refine kN ?_
          rcases q with q | q
          · rw [if_pos q]
          · by_cases hr0 : r = []
            · rw [if_pos hr0]
            · rw [if_neg hr0]; exact q
        · exact kS p' (by rw [if_neg hr0]; exact e) H' tb n' ((Keep.of_same s1).trans k')
      · rw [if_neg h1] at kN
        simp only [if_neg h1] at kS
        refine if_f (decide_eq_false fun q => h1 (V.str.inj q)) ?_
        refine ⟨_, rfl, la, _, _, _, rfl, rfl, SqL.of hl, atI_nat (j := 0) rfl, rfl, _, rfl, ?_⟩
        by_cases h2 : z = sOut
        · rw [if_pos h2] at kN
          simp only [if_pos h2] at kS
          refine if_t (decide_eq_true (congrArg V.str h2)) ?_
          refine ⟨_, rfl, _, rfl, _, rfl, la, _, rfl, SqL.of hl, fun sa hsa => ?_⟩
          rw [ecut]
          have s1 : Same H (upd H sa (.lst (r.map V.str))) := Same.upd_own hsa
          refine ⟨A, p, tb, sa, r, rfl, n.same s1, upd_same, hzr, fun q => kN (by rw [if_pos q]), fun hr0 H' n' k' => ?_⟩
          exact kS _ (by rw [if_neg hr0]) H' tb n' ((Keep.of_same s1).trans k')
        · rw [if_neg h2] at kN
          simp only [if_neg h2] at kS
          refine if_f (decide_eq_false fun q => h2 (V.str.inj q)) ?_
          refine ⟨_, rfl, _, rfl, A, p, tb, la, z :: r, rfl, n, hl, hw, hz, fun q => kN0 ((pLine_gate h1 h2).trans q), fun p' e H' tb' n' k' => kS0 p' ((pLine_gate h1 h2).trans e) H' tb' n' k'⟩
end
end GN
namespace GN
open PySem PySem.Spec PyProof.Rows L2
/-! ### the signs -/
def signPut (d : List (Key × V)) (c : Nat) : List (Key × V) := putK d (Sum.inl (c : Int)) (.str ⟨#[c]⟩)
def knownL : List Nat := (Str.ofString "\n\t #=abcdefghijklmnopqrstuvwxyz0123456789_").cps.toList
theorem val_signs (j : Nat) : ∀ (l : List Nat) (d : List (Key × V)), valV (l.foldl signPut d) (Sum.inl (j : Int)) = if j ∈ l then some (.str ⟨#[j]⟩) else valV d (Sum.inl (j : Int))
  | [], d => by simp
  | c :: l, d => by
    rw [List.foldl_cons, val_signs j l]
    unfold signPut
    rw [valV_put]
    by_cases h1 : j ∈ l
    · simp [h1]
    · by_cases h2 : j = c
      · subst h2
        simp
      · have h3 : ¬ ((Sum.inl (j : Int) : Key) = Sum.inl (c : Int)) := fun e => h2 (by have := Sum.inl.inj e; omega)
        simp [h1, h2, h3]
theorem known_iff (c : UInt8) : decide (c.toNat ∈ knownL) = known c := all256 (P := fun c => decide (c.toNat ∈ knownL) = known c) (by decide +kernel) c
theorem sign_of {n : Int} (h0 : 0 ≤ n) (h1 : n ≤ 255) : (valV (knownL.foldl signPut []) (Sum.inl n)).getD (.str "?") = .str ⟨#[sp1 (UInt8.ofNat n.toNat)]⟩ := by
  obtain ⟨j, rfl⟩ := Int.eq_ofNat_of_zero_le h0
  rw [val_signs, valV_nil]
  have e : (UInt8.ofNat j).toNat = j := by
    rw [UInt8.toNat_ofNat']
    omega
  have k := known_iff (UInt8.ofNat j)
  rw [e] at k
  unfold sp1
  show (if j ∈ knownL then some (V.str ⟨#[j]⟩) else none).getD (.str "?") = .str ⟨#[if known (UInt8.ofNat j) = true then (UInt8.ofNat j).toNat else 63]⟩
  by_cases h : j ∈ knownL
  · rw [if_pos h, if_pos (by rw [← k]; exact decide_eq_true h), e]
    rfl
  · rw [if_neg h, if_neg (by rw [← k, decide_eq_false h]; exact Bool.false_ne_true)]
    show V.str "?" = V.str ⟨#[63]⟩
    exact congrArg V.str (by decide +kernel)
theorem joinL_nil : ∀ l : List (List Nat), TL.joinL [] l = l.flatten
  | [] => rfl
  | [p] => by simp [TL.joinL]
  | p :: q :: r => by
    have ih := joinL_nil (q :: r)
    show p ++ ([] ++ TL.joinL [] (q :: r)) = _
    rw [ih]
    simp
def oneSign (n : Int) : Str := ⟨#[sp1 (UInt8.ofNat n.toNat)]⟩
theorem join_en (ns : List Int) : Txt.join "" (ns.map oneSign) = en (Sf33Neutral.bytesOf ns) := by
  refine TL.ext_tl ?_
  have e0 : TL.tl ("" : Str) = [] := by decide +kernel
  rw [TL.join_eq, TL.tl_join, e0, joinL_nil, en_tl]
  unfold Sf33Neutral.bytesOf
  induction ns with
  | nil => rfl
  | cons n ns ih =>
    simp only [List.map_cons, List.flatten_cons] at ih ⊢
    rw [ih]
    rfl
theorem sum_one : ∀ ns : List Int, ((ns.map oneSign).map (·.length)).sum = ns.length
  | [] => rfl
  | n :: ns => by
    have ih := sum_one ns
    simp only [List.map_cons, List.sum_cons, List.length_cons, ih]
    show 1 + ns.length = _
    omega
section
variable {P : Program} {w : World} {K : PySem.W.Frag} {mg : Str → Option Value} {base : Heap} {CF CG CN dk rg : Addr}
/-! ### spell -/
def spSpell (K : PySem.W.Frag) : Sp := fun vs H Q _ => ∃ (a : Addr) (ns : List Int), vs = [.ref a] ∧ SqL K H a (ns.map V.int) ∧ ns.length ≤ 65536 ∧ (∀ n ∈ ns, 0 ≤ n ∧ n ≤ 255) ∧
  ∀ H', Same H H' → Q (.str (en (Sf33Neutral.bytesOf ns))) H'
theorem scSp : FnScope ["text", "signs", "sign", "byte"] ["text"] (defScope sSpell) := ⟨rfl, rfl, rfl, by decide +kernel, rfl, by decide +kernel, by decide +kernel⟩
theorem ok_spell {f : Addr} {fd : FuncData} (F : Fun K "spell" "spell" sSpell f fd) (T : Txt K mg CF CG CN) : FnOk P w K mg base CX0 1 f fd ["text"] (spSpell K) := by
  obtain ⟨t1, m1⟩ := T.sKno
  obtain ⟨t2, m2⟩ := T.sStr
  refine F.ok scSp (fun vs H Q E h => ?_) (fun cdv A outer s H vs Q E hr h => ?_)
  · obtain ⟨a, ns, rfl, _⟩ := h
    rfl
  · obtain ⟨a, ns, rfl, ha, hn, hb, q⟩ := h
    refine ⟨_, pss_cons (ps_set (i := 1) scSp.nd rfl (.inr rfl) pe_dnewK)
      (pss_cons (ps_for PassesOwn.never rfl (pi_str (pe_glob rfl m1 (v := .str "\n\t #=abcdefghijklmnopqrstuvwxyz0123456789_") ⟨_, rfl⟩)) (pg_name (i := 2) scSp.nd rfl (.inl rfl))
        (pss_one (ps_dput (hu_of hr) (pv 1) (pe_callB call_ord (by rfl) T.ord (by decide +kernel) (pa_cons (pv 2) pa_nil)) (pv 2) rfl)))
      (pss_one (ps_ret (pe_join pe_str (pe_lc (own := [("byte", 3)]) (g := gName 3) (tt := tYes) (by rfl) scSp.nd (pi_list (pv 0))
        (blkOk_by (own := [("byte", 3)]) (N := ["text", "signs", "sign", "byte"]) (sc := defScope sSpell) (by decide +kernel)) (fun _ _ _ _ _ => pg_name (i := 3) scSp.nd rfl (Or.inl rfl)) (fun _ _ _ _ _ => pts_nil)
        (fun _ _ _ _ _ => pe_dget2 (hu_of hr) (pv 1) (pv 3) (pe_glob rfl m2 (v := .str "?") ⟨_, rfl⟩) ⟨rfl, rfl, rfl, rfl⟩)))))), ?_⟩
    intro ds hds
    refine ⟨_, rfl, for_it (walk_str (z := _)) (fun i σ H' => ∃ v kvs, σ = [some (.ref a), some (.ref ds), v, none] ∧ kvs = (knownL.take i).foldl signPut [] ∧ kvs.length ≤ i ∧ H' ds = some (.dK kvs) ∧ Same H H') ?_ (fun _ _ _ _ _ => trivial) ?_ ?_⟩
    · exact ⟨none, [], rfl, rfl, Nat.le_refl _, upd_same, Same.upd_own hds⟩
    · rintro i x σ H1 H2 hi ⟨v, kvs, rfl, ek, hl, hd, s1⟩ ⟨rfl, c, hc, rfl⟩
      refine ⟨_, rfl, _, rfl, _, rfl, _, rfl, rfl, ds, _, rfl, DPut.k (k := Sum.inl (c : Int)) hd ?_, ?_⟩
      · have h42 : (Str.ofString "\n\t #=abcdefghijklmnopqrstuvwxyz0123456789_").cps.size = 42 := by decide +kernel
        have hi' : i < 42 := Nat.lt_of_lt_of_eq hi h42
        exact Nat.lt_of_le_of_lt (show kvs.length ≤ 100 by omega) (by decide)
      have e : knownL[i]? = some c := by
        show (Str.ofString _).cps.toList[i]? = some c
        rw [Array.getElem?_toList]
        exact hc
      refine ⟨_, _, rfl, ?_, ?_, upd_same, Same.upd_new s1 hds⟩
      · rw [List.take_add_one, e, List.foldl_append, ← ek]
        rfl
      · have := length_putK kvs (Sum.inl (c : Int)) (.str ⟨#[c]⟩)
        exact Nat.le_trans this (by omega)
    · rintro σ H1 ⟨v, kvs, rfl, ek, hl, hd, s1⟩
      have ek : kvs = knownL.foldl signPut [] := by
        rw [ek]
        exact congrArg (List.foldl signPut []) (List.take_of_length_le (Nat.le_of_eq Array.length_toList))
      refine ⟨⟨_, rfl⟩, _, rfl, a, rfl, ⟨_, s1.seq ha⟩, fun D hD => lc_list (K := K) (a := a) (xs := ns.map V.int) (fun i H' => Same H1 H' ∧ H' D = some (.lst ((ns.take i).map fun n => V.str (oneSign n)))) ?_ ?_ ?_ ?_⟩
      · exact ⟨Same.upd_own hD, upd_same⟩
      · rintro i H' _ ⟨s2, _⟩
        exact (s1.trans s2).seq ha
      · rintro i x H' hi ⟨s2, h5⟩
        obtain ⟨n, hni, rfl⟩ : ∃ n, ns[i]? = some n ∧ x = V.int n := by
          rw [List.getElem?_map] at hi
          cases e : ns[i]? with
          | none => rw [e] at hi; cases hi
          | some z => rw [e] at hi; exact ⟨z, rfl, (Option.some.inj hi).symm⟩
        have hnm := hb n (List.mem_of_getElem? hni)
        have hil : i < ns.length := (List.getElem?_eq_some_iff.mp hni).1
        have hd2 := s2 _ _ hd
        refine ⟨rfl, _, rfl, ds, rfl, .inl ⟨_, .inl hd2⟩, _, rfl, _, DGet.k (k := Sum.inl n) hd2, _, h5, ?_, ?_⟩
        · rw [List.length_map, List.length_take]
          exact Nat.lt_of_le_of_lt (Nat.le_trans (Nat.min_le_right _ _) hn) (by decide)
        · refine ⟨Same.upd_new s2 hD, ?_⟩
          rw [ek, sign_of hnm.1 hnm.2, upd_same, List.take_add_one, hni, List.map_append]
          rfl
      · rintro H' ⟨s2, h5⟩
        rw [List.length_map, List.take_length] at h5
        refine ⟨_, D, ns.map oneSign, rfl, rfl, .inl (SqL.of (by rw [h5, List.map_map]; rfl)), ?_, ?_⟩
        · have e1 := sum_one ns
          have e2 : (("" : Str)).length = 0 := by decide +kernel
          rw [e1, e2, List.length_map]
          omega
        · rw [join_en]
          exact q H' (s1.trans s2)
/-! ### refuse_too_many -/
def spMany (CF CN CG : Addr) : Sp := fun vs H Q E => ∃ (A : NAd) (p : PN) (tb : List GR), vs = [.ref A.a] ∧ NOk CN CG H A p tb ∧ (¬ PSmall p → Raised CF E) ∧ (PSmall p → Q .non H)
theorem scMn : FnScope ["network"] ["network"] (defScope sMany) := ⟨rfl, rfl, rfl, by decide +kernel, rfl, by decide +kernel, by decide +kernel⟩
theorem ok_many {f : Addr} {fd : FuncData} (F : Fun K "refuse_too_many" "refuse_too_many" sMany f fd) (T : Txt K mg CF CG CN) : FnOk P w K mg base (L2.CX P w) 1 f fd ["network"] (spMany CF CN CG) := by
  obtain ⟨t1, m1⟩ := T.mIns
  obtain ⟨t2, m2⟩ := T.mOuts
  obtain ⟨t3, m3⟩ := T.mNames
  refine F.okX scMn (fun vs H Q E h => ?_) (fun cdv A outer s H vs Q E hr h => ?_)
  · obtain ⟨A, p, tb, rfl, _⟩ := h
    rfl
  · obtain ⟨A, p, tb, rfl, n, kN, kS⟩ := h
    refine ⟨_, pss_cons (ps_if (PW.pt (pw_or (pt_cmpR op_gt (pe_callB call_lenD (by rfl) T.len PySem.boot_len (pa_cons (pe_fld (pv 0) rfl) pa_nil)) (pe_glob rfl m1 (v := .int 64) ⟨_, rfl⟩) (nomark _))
          (pw_or1 (pt_cmpR op_gt (pe_callB call_len_seq (by rfl) T.len PySem.boot_len (pa_cons (pe_fld (pv 0) rfl) pa_nil)) (pe_glob rfl m2 (v := .int 64) ⟨_, rfl⟩) (nomark _)))))
        (pss_one (ps_raise rfl (takes_of rfl rfl rfl rfl) (pmk_own0 PySem.F.excBase_ValueError T.xF T.gF T.kF (raises_own T.bF T.tF) rfl))) pss_nil)
      (pss_one (ps_if (pt_cmpR op_gt (pe_op op_add (pe_callB call_lenD (by rfl) T.len PySem.boot_len (pa_cons (pe_fld (pv 0) rfl) pa_nil)) (pe_callB call_lenD (by rfl) T.len PySem.boot_len (pa_cons (pe_fld (pv 0) rfl) pa_nil))) (pe_glob rfl m3 (v := .int 1024) ⟨_, rfl⟩) (nomark _))
        (pss_one (ps_raise rfl (takes_of rfl rfl rfl rfl) (pmk_own0 PySem.F.excBase_ValueError T.xF T.gF T.kF (raises_own T.bF T.tF) rfl))) pss_nil)), ?_⟩
    have hg : tb.length = p.gates.length := by rw [n.row, List.length_map]
    refine ⟨_, rfl, A.a, CN, A.dx, _, _, rfl, n.ob, T.cN, T.nI, nF_in A, A.di, _, rfl, n.ins, _, _, rfl, rfl, _, rfl, ?_⟩
    rw [insK_len]
    by_cases h1 : p.ins.length ≤ 64
    · refine if_f (decide_eq_false (by omega)) ?_
      refine ⟨_, rfl, A.a, CN, A.dx, _, _, rfl, n.ob, T.cN, T.nO, nF_out A, A.dl, _, rfl, .inl (SqL.of n.outs), _, _, rfl, rfl, _, rfl, ?_⟩
      rw [List.length_map]
      by_cases h2 : p.outs.length ≤ 64
      · refine if_f (decide_eq_false (by omega)) ?_
        refine ⟨_, rfl, A.a, CN, A.dx, _, _, rfl, n.ob, T.cN, T.nI, nF_in A, A.di, _, rfl, n.ins, _, rfl, A.a, CN, A.dx, _, _, rfl, n.ob, T.cN, T.nG, nF_gates A, A.dg, _, rfl, n.gates, _, _, rfl, rfl, _, _, rfl, rfl, _, rfl, ?_⟩
        rw [insK_len, gatesK_len]
        by_cases h3 : p.ins.length + p.gates.length ≤ 1024
        · exact if_f (decide_eq_false (by omega)) (kS ⟨h1, h2, h3⟩)
        · exact if_t (decide_eq_true (by omega)) (kN (fun z => h3 z.2.2) H)
      · exact if_t (decide_eq_true (by omega)) (kN (fun z => h2 z.2.1) H)
    · exact if_t (decide_eq_true (by omega)) (if_t rfl (kN (fun z => h1 z.1) H))
/-! ### sources_at_once -/
def spOnce (CG : Addr) : Sp := fun vs H Q _ => ∃ (r : GR), vs = [.ref r.ga] ∧ GAt CG H r ∧ ∀ (ls : Addr) (H' : Hp), Same H H' → H' ls = some (.lst (r.pg.now.map V.str)) → Q (.ref ls) H'
theorem scOn : FnScope ["gate"] ["gate"] (defScope sAtOnce) := ⟨rfl, rfl, rfl, by decide +kernel, rfl, by decide +kernel, by decide +kernel⟩
theorem ok_once {f : Addr} {fd : FuncData} (F : Fun K "sources_at_once" "sources_at_once" sAtOnce f fd) (T : Txt K mg CF CG CN) (T2 : Txt2 K mg w dk rg) : FnOk P w K mg base CX0 1 f fd ["gate"] (spOnce CG) := by
  obtain ⟨es, en_, D⟩ := T2.dR
  refine F.ok scOn (fun vs H Q E h => ?_) (fun cdv A outer s H vs Q E hr h => ?_)
  · obtain ⟨r, rfl, _⟩ := h
    rfl
  · obtain ⟨r, rfl, g, k⟩ := h
    refine ⟨_, pss_cons (ps_if (pt_cmpR (op_in_kd D) (pe_fld (pv 0) rfl) (pe_glob rfl T2.gR (v := .ref rg) rfl) (by rfl)) (pss_one (ps_ret (pe_lst pa_nil))) pss_nil) (pss_one (ps_ret (pe_fld (pv 0) rfl))), ?_⟩
    obtain ⟨q, hq1, hq2⟩ := T2.atR r.pg.kind
    have hq : q.isSome = isRegS r.pg.kind := by
      rw [← rc_reg]
      cases e : rc r.pg.kind with
      | none => rw [e] at hq2; rw [hq2]; rfl
      | some c => rw [e] at hq2; obtain ⟨t, rfl⟩ := hq2; rfl
    refine ⟨_, rfl, r.ga, CG, r.dx, _, _, rfl, g.ob, T.cG, T.nK, gF_kind _ _, r.pg.kind, q, rfl, rfl, hq1, _, rfl, ?_⟩
    rw [hq]
    cases e : isRegS r.pg.kind with
    | true =>
      refine if_t rfl ⟨(by show 0 ≤ sizeLine; decide), fun l hl => k l _ (Same.upd_own hl) ?_⟩
      rw [upd_same]
      unfold PG.now
      rw [if_pos e]
      rfl
    | false =>
      refine if_f rfl ⟨_, rfl, r.ga, CG, r.dx, _, _, rfl, g.ob, T.cG, T.nS, gF_src _ _, k r.sa H (Same.refl H) ?_⟩
      rw [g.src]
      unfold PG.now
      rw [if_neg (by rw [e]; exact Bool.false_ne_true)]
/-! ### refuse_unknown_names -/
def spUnknown (CF CN CG : Addr) : Sp := fun vs H Q E => ∃ (A : NAd) (p : PN) (tb : List GR), vs = [.ref A.a] ∧ NOk CN CG H A p tb ∧ (¬ PKnown p → Raised CF E) ∧ (PKnown p → ∀ H', Same H H' → Q .non H')
theorem scUn : FnScope ["network", "name", "gate"] ["network"] (defScope sUnknown) := ⟨rfl, rfl, rfl, by decide +kernel, rfl, by decide +kernel, by decide +kernel⟩
theorem mem_take_of {α : Type} {l : List α} {i : Nat} {z : α} (h : l[i]? = some z) {x : α} (hx : x ∈ l.take (i + 1)) : x ∈ l.take i ∨ x = z := by
  rw [List.take_add_one, h] at hx
  rcases List.mem_append.mp hx with e | e
  · exact .inl e
  · exact .inr (List.mem_singleton.mp e)
theorem ok_unknown {f fG : Addr} {fd fdG : FuncData} (F : Fun K "refuse_unknown_names" "refuse_unknown_names" sUnknown f fd) (T : Txt K mg CF CG CN)
    (FG : Fun K "is_given" "is_given" sIsGiven fG fdG) (bG : Binds K fdG ["network", "name"] []) (mG : mg "is_given" = some (.ref fG)) : FnOk P w K mg base (L2.CX P w) 2 f fd ["network"] (spUnknown CF CN CG) := by
  have GG : FnOk P w K mg base CX0 1 fG fdG ["network", "name"] (spIsGiven CN) := ok_isGiven FG T
  refine F.okX scUn (fun vs H Q E h => ?_) (fun cdv A outer s H vs Q E hr h => ?_)
  · obtain ⟨A, p, tb, rfl, _⟩ := h
    rfl
  · obtain ⟨A, p, tb, rfl, n, kN, kS⟩ := h
    refine ⟨_, pss_cons (ps_for (passes_of rfl) rfl (pi_list (pe_fld (pv 0) rfl)) (pg_name (i := 1) scUn.nd rfl (.inl rfl))
        (pss_one (ps_if (pt_not (pt_val (pe_call GG hr rfl mG FG.kp bG .nil pass0 (pa_cons (pv 0) (pa_cons (pv 1) pa_nil)))))
          (pss_one (ps_raise rfl (takes_of rfl rfl rfl rfl) (pmk_own0 PySem.F.excBase_ValueError T.xF T.gF T.kF (raises_own T.bF T.tF) rfl))) pss_nil)))
      (pss_one (ps_lock (ps_for (passes_of rfl) rfl (pi_values (pe_fld (pv 0) rfl)) (pg_name (i := 2) scUn.nd rfl (.inl rfl))
        (pss_one (ps_for (passes_of rfl) rfl (pi_list (pe_fld (pv 2) rfl)) (pg_name (i := 1) scUn.nd rfl (.inl rfl))
          (pss_one (ps_if (pt_not (pt_val (pe_call GG hr rfl mG FG.kp bG .nil pass0 (pa_cons (pv 0) (pa_cons (pv 1) pa_nil)))))
            (pss_one (ps_raise rfl (takes_of rfl rfl rfl rfl) (pmk_own0 PySem.F.excBase_ValueError T.xF T.gF T.kF (raises_own T.bF T.tF) rfl))) pss_nil))))))), ?_⟩
    refine ⟨_, rfl, A.a, CN, A.dx, _, _, rfl, n.ob, T.cN, T.nO, nF_out A, A.dl, rfl, ⟨_, SqL.of n.outs⟩, for_list (K := K) (a := A.dl) (xs := p.outs.map V.str)
      (fun i σ H' => ∃ v, σ = [some (.ref A.a), v, none] ∧ H' = H ∧ ∀ x ∈ p.outs.take i, p.given x = true) ?_ ?_ ?_ ?_⟩
    · exact ⟨none, rfl, rfl, fun x hx => by simp at hx⟩
    · rintro i σ H' _ ⟨v, rfl, rfl, _⟩
      exact SqL.of n.outs
    · rintro i x σ H' hi ⟨v, rfl, rfl, ha⟩
      obtain ⟨z, hz, rfl⟩ := str_item hi
      refine ⟨_, rfl, _, rfl, A, p, tb, z, rfl, n.ob, .inl n.ins, .inl n.gates, n.gn, _, rfl, ?_⟩
      cases e : p.given z with
      | false => exact if_t rfl (kN (fun k => by have := k.1 z (List.mem_of_getElem? hz); rw [e] at this; cases this) _)
      | true =>
        refine if_f rfl ⟨_, rfl, rfl, fun x hx => ?_⟩
        rcases mem_take_of hz hx with h | h
        · exact ha x h
        · rw [h]; exact e
    · rintro σ H' ⟨v, rfl, rfl, ha⟩
      rw [List.length_map, List.take_length] at ha
      refine ⟨A.dg, _, n.gates, trivial, fun od => ?_⟩
      have f1 : A.a ≠ A.dg := ne_of n.ob n.gates (by intro z; cases z)
      have hob : (upd H' A.dg (.frz od (.dK (gatesK tb)))) A.a = some (.ins CN A.dx (nF A)) := by rw [upd_ne f1]; exact n.ob
      refine ⟨_, rfl, A.a, CN, A.dx, _, _, rfl, hob, T.cN, T.nG, nF_gates A, A.dg, od, gatesK tb, rfl, upd_same,
        for_it w_vals (fun i σ H2 => ∃ v v2, σ = [some (.ref A.a), v, v2] ∧ H2 = upd H' A.dg (.frz od (.dK (gatesK tb))) ∧ ∀ r ∈ tb.take i, ∀ x ∈ r.pg.src, p.given x = true) ?_ ?_ ?_ ?_⟩
      · exact ⟨_, _, rfl, rfl, fun r hr => by simp at hr⟩
      · rintro i σ H2 _ ⟨_, _, rfl, rfl, _⟩
        exact upd_same
      · rintro i x σ H2 H3 hi ⟨v, v2, rfl, rfl, hk⟩ ⟨rfl, kk, hkk⟩
        obtain ⟨r, hri, hx⟩ : ∃ r, tb[i]? = some r ∧ x = .ref r.ga := by
          unfold gatesK at hkk
          rw [List.getElem?_map] at hkk
          cases e : tb[i]? with
          | none => rw [e] at hkk; cases hkk
          | some r =>
            rw [e] at hkk
            exact ⟨r, rfl, (congrArg Prod.snd (Option.some.inj hkk)).symm⟩
        subst hx
        have hrm : r ∈ tb := List.mem_of_getElem? hri
        have g := n.each r hrm
        have g1 : r.ga ≠ A.dg := ne_of g.ob n.gates (by intro z; cases z)
        have g2 : r.sa ≠ A.dg := ne_of g.src n.gates (by intro z; cases z)
        refine ⟨_, rfl, r.ga, CG, r.dx, _, _, rfl, (by rw [upd_ne g1]; exact g.ob), T.cG, T.nS, gF_src _ _, r.sa, rfl, ⟨_, SqL.of (by rw [upd_ne g2]; exact g.src)⟩,
          for_list (K := K) (a := r.sa) (xs := r.pg.src.map V.str) (fun j σ H4 => ∃ v, σ = [some (.ref A.a), v, some (.ref r.ga)] ∧ H4 = upd H' A.dg (.frz od (.dK (gatesK tb))) ∧ ∀ x ∈ r.pg.src.take j, p.given x = true) ?_ ?_ ?_ ?_⟩
        · exact ⟨_, rfl, rfl, fun x hx => by simp at hx⟩
        · rintro j σ H4 _ ⟨_, rfl, rfl, _⟩
          exact SqL.of (by rw [upd_ne g2]; exact g.src)
        · rintro j x σ H4 hj ⟨_, rfl, rfl, hjk⟩
          obtain ⟨z, hz, rfl⟩ := str_item hj
          refine ⟨_, rfl, _, rfl, A, p, tb, z, rfl, hob, .inl ?_, .inr ⟨od, upd_same⟩, n.gn, _, rfl, ?_⟩
          · rw [upd_ne n.apart]; exact n.ins
          cases e : p.given z with
          | false =>
            refine if_t rfl (kN (fun k => ?_) _)
            have := k.2 r.pg (by rw [n.row]; exact List.mem_map.mpr ⟨r, hrm, rfl⟩) z (List.mem_of_getElem? hz)
            rw [e] at this
            cases this
          | true =>
            refine if_f rfl ⟨_, rfl, rfl, fun x hx => ?_⟩
            rcases mem_take_of hz hx with h | h
            · exact hjk x h
            · rw [h]; exact e
        · rintro σ H4 ⟨_, rfl, rfl, hjk⟩
          rw [List.length_map, List.take_length] at hjk
          refine ⟨_, _, rfl, rfl, fun r' hr' => ?_⟩
          rcases mem_take_of hri hr' with h | h
          · exact hk r' h
          · rw [h]; exact hjk
      · rintro σ H2 ⟨v, v2, rfl, rfl, hk⟩
        rw [List.take_length] at hk
        refine ⟨upd_same, kS ⟨ha, fun g hg x hx => ?_⟩ _ fun b o e => ?_⟩
        · rw [n.row] at hg
          obtain ⟨r, hr', rfl⟩ := List.mem_map.mp hg
          exact hk r hr' x hx
        · by_cases hb : b = A.dg
          · subst hb
            rw [n.gates] at e
            cases e
            exact upd_same
          · rw [upd_ne hb, upd_ne hb]
            exact e
end
end GN
namespace GN
open PySem PySem.Spec PyProof.Rows L2
/-! ### tables -/
def wK (l : List Str) (f : Str → Nat) : List (Key × V) := l.map fun g => (Sum.inr g, .int (f g : Nat))
def takK (tl : List (Str × Addr)) : List (Key × V) := tl.map fun q => (Sum.inr q.1, V.ref q.2)
theorem inr_ne {a b : Str} (h : ¬ a = b) : ¬ ((Sum.inr a : Key) = Sum.inr b) := fun e => h (Sum.inr.inj e)
theorem wK_val {f : Str → Nat} {t : Str} : ∀ {l : List Str}, t ∈ l → valV (wK l f) (Sum.inr t) = some (.int (f t : Nat))
  | a :: l, h => by
    unfold wK
    rw [List.map_cons]
    by_cases e : a = t
    · subst e
      exact valV_pos rfl
    · rw [valV_neg (inr_ne e)]
      rcases List.mem_cons.mp h with z | z
      · exact absurd z.symm e
      · exact wK_val z
theorem wK_none {f : Str → Nat} {t : Str} : ∀ {l : List Str}, t ∉ l → valV (wK l f) (Sum.inr t) = none
  | [], _ => rfl
  | a :: l, h => by
    unfold wK
    rw [List.map_cons, valV_neg (inr_ne fun (e : a = t) => h (by rw [e]; exact List.mem_cons_self))]
    exact wK_none fun z => h (List.mem_cons_of_mem _ z)
theorem wK_new {f : Str → Nat} {t : Str} {l : List Str} (h : t ∉ l) : putK (wK l f) (Sum.inr t) (.int (f t : Nat)) = wK (l ++ [t]) f := by
  rw [putK_new _ (wK_none h)]
  unfold wK
  rw [List.map_append]
  rfl
theorem wK_put {f : Str → Nat} {t : Str} {l : List Str} (v : Nat) (h : t ∈ l) : putK (wK l f) (Sum.inr t) (.int (v : Nat)) = wK l (fun x => if x = t then v else f x) := by
  unfold putK
  rw [if_pos (by rw [valV_any, wK_val h]; rfl)]
  unfold wK
  rw [List.map_map]
  refine List.map_congr_left fun x _ => ?_
  show (if (Sum.inr x : Key) = Sum.inr t then ((Sum.inr x : Key), V.int (v : Nat)) else (Sum.inr x, V.int (f x : Nat))) = (Sum.inr x, V.int ((if x = t then v else f x : Nat) : Nat))
  by_cases e : x = t
  · rw [if_pos (congrArg Sum.inr e), if_pos e]
  · rw [if_neg (inr_ne e), if_neg e]
theorem wK_len (l : List Str) (f : Str → Nat) : (wK l f).length = l.length := by simp [wK]
theorem takK_len (tl : List (Str × Addr)) : (takK tl).length = tl.length := by simp [takK]
theorem takK_val {s : Str} : ∀ {tl : List (Str × Addr)}, s ∈ tl.map Prod.fst → ∃ a, (s, a) ∈ tl ∧ valV (takK tl) (Sum.inr s) = some (.ref a)
  | q :: tl, h => by
    unfold takK
    rw [List.map_cons]
    by_cases e : q.1 = s
    · subst e
      exact ⟨q.2, List.mem_cons_self, valV_pos rfl⟩
    · rw [List.map_cons] at h
      rcases List.mem_cons.mp h with z | z
      · exact absurd z.symm e
      · obtain ⟨a, ha, hv⟩ := takK_val z
        exact ⟨a, List.mem_cons_of_mem _ ha, (valV_neg (inr_ne e)).trans hv⟩
theorem takK_none {s : Str} : ∀ {tl : List (Str × Addr)}, s ∉ tl.map Prod.fst → valV (takK tl) (Sum.inr s) = none
  | [], _ => rfl
  | q :: tl, h => by
    unfold takK
    rw [List.map_cons] at h ⊢
    rw [valV_neg (inr_ne fun (e : q.1 = s) => h (by rw [e]; exact List.mem_cons_self))]
    exact takK_none fun z => h (List.mem_cons_of_mem _ z)
theorem takK_new {s : Str} {a : Addr} {tl : List (Str × Addr)} (h : s ∉ tl.map Prod.fst) : putK (takK tl) (Sum.inr s) (.ref a) = takK (tl ++ [(s, a)]) := by
  rw [putK_new _ (takK_none h)]
  unfold takK
  rw [List.map_append]
  rfl
theorem not_in_take {α : Type} {l : List α} {i : Nat} {z : α} (hn : l.Nodup) (h : l[i]? = some z) : z ∉ l.take i := by
  intro hm
  obtain ⟨j, hj, e⟩ := List.mem_take_iff_getElem.mp hm
  obtain ⟨hi, ez⟩ := List.getElem?_eq_some_iff.mp h
  have hj' : j < i := by omega
  have : j = i := (List.getElem_inj hn).mp (e.trans ez.symm)
  omega
theorem take_more {α : Type} {l : List α} {i : Nat} {z : α} (h : l[i]? = some z) : l.take (i + 1) = l.take i ++ [z] := by
  rw [List.take_add_one, h]
  rfl
/-- the lists of takers, each at an address of its own -/
structure TK (H0 H : Hp) (dt : Addr) (tl : List (Str × Addr)) (tkf : Str → List Str) : Prop where
  dict : H dt = some (.dK (takK tl))
  nd : (tl.map Prod.snd).Nodup
  lst : ∀ q ∈ tl, H q.2 = some (.lst ((tkf q.1).map V.str))
  new : ∀ q ∈ tl, H0 q.2 = none
theorem TK.congr {H0 H : Hp} {dt : Addr} {tl : List (Str × Addr)} {f g : Str → List Str} (k : TK H0 H dt tl f) (h : ∀ s, f s = g s) : TK H0 H dt tl g := ⟨k.dict, k.nd, fun q hq => by rw [← h]; exact k.lst q hq, k.new⟩
theorem TK.keep {H0 H : Hp} {dt : Addr} {tl : List (Str × Addr)} {f : Str → List Str} {b : Addr} {o : HO} (k : TK H0 H dt tl f) (h1 : dt ≠ b) (h2 : ∀ q ∈ tl, q.2 ≠ b) : TK H0 (upd H b o) dt tl f :=
  ⟨by rw [upd_ne h1]; exact k.dict, k.nd, fun q hq => by rw [upd_ne (h2 q hq)]; exact k.lst q hq, k.new⟩
theorem TK.same {H0 H H' : Hp} {dt : Addr} {tl : List (Str × Addr)} {f : Str → List Str} (k : TK H0 H dt tl f) (s : Same H H') : TK H0 H' dt tl f := ⟨s _ _ k.dict, k.nd, fun q hq => s _ _ (k.lst q hq), k.new⟩
theorem pair_eq {tl : List (Str × Addr)} (hn : (tl.map Prod.fst).Nodup) {q r : Str × Addr} (hq : q ∈ tl) (hr : r ∈ tl) (e : q.1 = r.1) : q = r := by
  obtain ⟨i, hi, rfl⟩ := List.getElem_of_mem hq
  obtain ⟨j, hj, rfl⟩ := List.getElem_of_mem hr
  have h : i = j := (List.getElem_inj (xs := tl.map Prod.fst) (h₀ := by simpa using hi) (h₁ := by simpa using hj) hn).mp (by simpa using e)
  subst h
  rfl
theorem pair_eq2 {tl : List (Str × Addr)} (hn : (tl.map Prod.snd).Nodup) {q r : Str × Addr} (hq : q ∈ tl) (hr : r ∈ tl) (e : q.2 = r.2) : q = r := by
  obtain ⟨i, hi, rfl⟩ := List.getElem_of_mem hq
  obtain ⟨j, hj, rfl⟩ := List.getElem_of_mem hr
  have h : i = j := (List.getElem_inj (xs := tl.map Prod.snd) (h₀ := by simpa using hi) (h₁ := by simpa using hj) hn).mp (by simpa using e)
  subst h
  rfl
theorem TK.app {H0 H : Hp} {dt : Addr} {tl : List (Str × Addr)} {f : Str → List Str} {q : Str × Addr} {n : Str} (k : TK H0 H dt tl f) (hn : (tl.map Prod.fst).Nodup) (hq : q ∈ tl) :
    TK H0 (upd H q.2 (.lst ((f q.1).map V.str ++ [.str n]))) dt tl (fun x => if x = q.1 then f x ++ [n] else f x) := by
  have h1 : dt ≠ q.2 := ne_of k.dict (k.lst q hq) (by intro z; cases z)
  refine ⟨by rw [upd_ne h1]; exact k.dict, k.nd, fun r hr => ?_, k.new⟩
  by_cases e : r.1 = q.1
  · have := pair_eq hn hr hq e
    subst this
    rw [upd_same, if_pos rfl, List.map_append]
    rfl
  · have h2 : r.2 ≠ q.2 := fun z => e (congrArg Prod.fst (pair_eq2 k.nd hr hq z))
    rw [upd_ne h2, if_neg e]
    exact k.lst r hr
/-- all stays but what is at d -/
def SameX (d : Addr) (H H' : Hp) : Prop := ∀ b o, H b = some o → b ≠ d → H' b = some o
theorem SameX.upd_new {d p : Addr} {H H' : Hp} {o : HO} (s : SameX d H H') (h : H p = none) : SameX d H (upd H' p o) := fun b u e hb => by
  rw [upd_ne (ne_of_none e h)]
  exact s b u e hb
theorem SameX.free {d l : Addr} {H H' : Hp} {u : HO} (s : SameX d H H') (hd : H' d = some u) (h : H' l = none) : H l = none := by
  cases q : H l with
  | none => rfl
  | some o =>
    by_cases e : l = d
    · subst e
      rw [hd] at h
      cases h
    · rw [s l o q e] at h
      cases h
theorem SameX.trans {d : Addr} {H H1 H2 : Hp} (a : SameX d H H1) (b : Same H1 H2) : SameX d H H2 := fun c o e hc => b c o (a c o e hc)
theorem SameX.unlock {d : Addr} {H H' : Hp} {u : HO} (s : SameX d H H') (h : H d = some u) : Same H (upd H' d u) := fun b o e => by
  by_cases hb : b = d
  · subst hb
    rw [h] at e
    cases e
    exact upd_same
  · rw [upd_ne hb]
    exact s b o e hb
def awR (gs : List Str) (g : PG) : List Str := g.now.filter fun s => decide (s ∈ gs)
theorem tk_snoc (gs : List Str) (aw : Str → List Str) (g s : Str) : tk (gs ++ [g]) aw s = tk gs aw s ++ List.replicate ((aw g).count s) g := by
  unfold tk
  rw [List.flatMap_append]
  simp
theorem tk_len (aw : Str → List Str) (s : Str) : ∀ (gs : List Str), (∀ g ∈ gs, (aw g).length ≤ 3) → (tk gs aw s).length ≤ 3 * gs.length
  | [], _ => by simp [tk]
  | g :: gs, h => by
    have e : tk (g :: gs) aw s = List.replicate ((aw g).count s) g ++ tk gs aw s := rfl
    have h1 := tk_len aw s gs fun x hx => h x (List.mem_cons_of_mem _ hx)
    have h2 := h g List.mem_cons_self
    have h3 : (aw g).count s ≤ (aw g).length := List.count_le_length
    rw [e, List.length_append, List.length_replicate, List.length_cons]
    omega
theorem rep_step (l : List Str) (j : Nat) (x s g : Str) (h : l[j]? = some x) : List.replicate ((l.take (j + 1)).count s) g = if s = x then List.replicate ((l.take j).count s) g ++ [g] else List.replicate ((l.take j).count s) g := by
  rw [take_more h, List.count_append]
  by_cases e : s = x
  · subst e
    rw [if_pos rfl]
    simp [List.replicate_succ']
  · rw [if_neg e]
    have : ([x] : List Str).count s = 0 := List.count_eq_zero.mpr (by simp [e])
    rw [this, Nat.add_zero]
/-- how long a list is, as the heap has it -/
def lenAt (H : Hp) (a : Addr) : Nat := match H a with
  | some (.lst xs) => xs.length
  | _ => 0
theorem lenAt_of {H : Hp} {a : Addr} {xs : List V} (h : H a = some (.lst xs)) : lenAt H a = xs.length := by
  unfold lenAt
  rw [h]
theorem gates_item {tb : List GR} {i : Nat} {k : Key} {v : V} (h : (gatesK tb)[i]? = some (k, v)) : ∃ r, tb[i]? = some r ∧ k = Sum.inr r.pg.name ∧ v = .ref r.ga := by
  unfold gatesK at h
  rw [List.getElem?_map] at h
  cases e : tb[i]? with
  | none => rw [e] at h; cases h
  | some r =>
    rw [e] at h
    have e1 := Option.some.inj h
    exact ⟨r, rfl, (congrArg Prod.fst e1).symm, (congrArg Prod.snd e1).symm⟩
abbrev nmsOf (tb : List GR) : List Str := tb.map fun r => r.pg.name
theorem nms_item {tb : List GR} {i : Nat} {r : GR} (h : tb[i]? = some r) : (nmsOf tb)[i]? = some r.pg.name := by
  rw [List.getElem?_map, h]
  rfl
theorem gates_val {tb : List GR} (hn : (nmsOf tb).Nodup) {r : GR} (hr : r ∈ tb) : valV (gatesK tb) (Sum.inr r.pg.name) = some (.ref r.ga) := by
  induction tb with
  | nil => cases hr
  | cons a l ih =>
    unfold nmsOf at hn
    rw [List.map_cons, List.nodup_cons] at hn
    unfold gatesK at ih ⊢
    rw [List.map_cons]
    rcases List.mem_cons.mp hr with e | e
    · subst e
      exact valV_pos rfl
    · have hne : a.pg.name ≠ r.pg.name := fun z => hn.1 (by rw [z]; exact List.mem_map.mpr ⟨r, e, rfl⟩)
      rw [valV_neg (inr_ne hne)]
      exact ih hn.2 e
def spOrder (CG : Addr) : Sp := fun vs H Q _ => ∃ (dg : Addr) (tb : List GR) (aw : Str → List Str), vs = [.ref dg] ∧ H dg = some (.dK (gatesK tb)) ∧ (∀ r ∈ tb, GAt CG H r) ∧ (nmsOf tb).Nodup ∧ tb.length ≤ 1024 ∧
  (∀ r ∈ tb, r.pg.src.length ≤ 3) ∧ (∀ r ∈ tb, aw r.pg.name = awR (nmsOf tb) r.pg) ∧
  ∀ (H' : Hp) (l : Addr) (order : List Str) (wf : Str → Nat), Same H H' → H l = none → H' l = some (.lst (order.map V.str)) → KInv (nmsOf tb) aw order [] wf [] → Q (.ref l) H'
abbrev ordN : List Str := ["gates", "takers", "name", "waits", "gate", "source", "awaited", "order", "ready", "done", "taker"]
theorem scOr : FnScope ordN ["gates"] (defScope sOrder) := ⟨rfl, rfl, rfl, by decide +kernel, rfl, by decide +kernel, by decide +kernel⟩
end GN
namespace GN
open PySem PySem.Spec PyProof.Rows L2
theorem filt_pos {p : Str → Bool} {z : Str} (h : p z = true) : [z].filter p = [z] := by simp [h]
theorem filt_neg {p : Str → Bool} {z : Str} (h : p z = false) : [z].filter p = [] := by simp [h]
section
variable {P : Program} {w : World} {K : PySem.W.Frag} {mg : Str → Option Value} {base : Heap} {CF CG CN dk rg : Addr}
theorem ok_order {f fO : Addr} {fd fdO : FuncData} (F : Fun K "order_gates" "order_gates" sOrder f fd) (T : Txt K mg CF CG CN) (T2 : Txt2 K mg w dk rg)
    (FO : Fun K "sources_at_once" "sources_at_once" sAtOnce fO fdO) (bO : Binds K fdO ["gate"] []) (mO : mg "sources_at_once" = some (.ref fO)) : FnOk P w K mg base CX0 2 f fd ["gates"] (spOrder CG) := by
  have GO : FnOk P w K mg base CX0 1 fO fdO ["gate"] (spOnce CG) := ok_once FO T T2
  refine F.ok scOr (fun vs H Q E h => ?_) (fun cdv A outer s H vs Q E hr h => ?_)
  · obtain ⟨dg, tb, aw, rfl, _⟩ := h
    rfl
  · obtain ⟨dg, tb, aw, rfl, hg, hG, hnd, hlen, hsrc, haw, q⟩ := h
    refine ⟨_, pss_cons (ps_set (i := 1) scOr.nd rfl (.inl rfl) pe_dnewK)
      (pss_cons (ps_lock (ps_for PassesOwn.never rfl (pi_keys (pv 0)) (pg_name (i := 2) scOr.nd rfl (.inl rfl)) (pss_one (ps_dput (hu_of hr) (pv 1) (pv 2) (pe_lst pa_nil) rfl))))
      (pss_cons (ps_set (i := 3) scOr.nd rfl (.inr rfl) pe_dnewK)
      (pss_cons (ps_lock (ps_for PassesOwn.never rfl (pi_items (pv 0)) (pg_tup rfl (pgs_cons (pg_name (i := 2) scOr.nd rfl (.inl rfl)) (pgs_cons (pg_name (i := 4) scOr.nd rfl (.inl rfl)) pgs_nil)))
        (pss_cons (ps_setLc (i := 6) (own := [("source", 5)]) (g := gName 5) (by rfl) scOr.nd rfl rfl (sw_true rfl rfl rfl (by decide +kernel)) (pi_list (pe_call GO hr rfl mO FO.kp bO .nil pass0 (pa_cons (pv 4) pa_nil)))
          (blkOk_by (own := [("source", 5)]) (N := ordN) (sc := defScope sOrder) (by decide +kernel)) (fun _ _ _ _ _ => pg_name (i := 5) scOr.nd rfl (Or.inl rfl)) (fun _ _ _ _ _ => pts_one (pt_cmp (pc_din (hu_of hr) (pv 5) (pv 0)))) (fun _ _ _ _ _ => pv 5))
        (pss_cons (ps_dput (hu_of hr) (pv 3) (pv 2) (pe_callB call_len_seq (by rfl) T.len PySem.boot_len (pa_cons (pv 6) pa_nil)) rfl)
        (pss_one (ps_for PassesOwn.never rfl (pi_list (pv 6)) (pg_name (i := 5) scOr.nd rfl (.inl rfl))
          (pss_one (ps_expr (pe_bm PySem.F.plainAttrs_list PySem.F.slot_list_append PySem.F.type_list_append mt_append (pe_dget (hu_of hr) (pv 1) (pv 5) (fun _ _ => rfl)) (pa_cons (pv 2) pa_nil)))))))))) 
      (pss_cons (ps_set (i := 7) scOr.nd rfl (.inl rfl) (pe_lst pa_nil))
      (pss_cons (ps_lock (ps_setLc (i := 8) (own := [("name", 2)]) (g := gName 2) (by rfl) scOr.nd rfl rfl (sw_true rfl rfl rfl (by decide +kernel)) (pi_keys (pv 0))
          (blkOk_by (own := [("name", 2)]) (N := ordN) (sc := defScope sOrder) (by decide +kernel)) (fun _ _ _ _ _ => pg_name (i := 2) scOr.nd rfl (Or.inl rfl))
          (fun _ _ _ _ _ => pts_one (pt_cmpR op_eq (pe_dget (hu_of hr) (pv 3) (pv 2) (fun _ _ => rfl)) pe_int (nomark _))) (fun _ _ _ _ _ => pv 2)))
      (pss_cons (ps_while PassesOwn.never (pt_cmpR op_gt (pe_callB call_len_seq (by rfl) T.len PySem.boot_len (pa_cons (pv 8) pa_nil)) pe_int (nomark _))
        (pss_cons (ps_set (i := 9) scOr.nd rfl (.inl rfl) (pe_bm0 PySem.F.plainAttrs_list PySem.F.slot_list_pop PySem.F.type_list_pop mt_pop (pv 8)))
        (pss_cons (ps_expr (pe_bm PySem.F.plainAttrs_list PySem.F.slot_list_append PySem.F.type_list_append mt_append (pv 7) (pa_cons (pv 9) pa_nil)))
        (pss_one (ps_for PassesOwn.never rfl (pi_list (pe_dget (hu_of hr) (pv 1) (pv 9) (fun _ _ => rfl))) (pg_name (i := 10) scOr.nd rfl (.inl rfl))
          (pss_cons (ps_daug (hu_of hr) (pv 3) (pv 10) pe_int in_sub (fun _ _ _ => rfl))
          (pss_one (ps_if (pt_cmpR op_eq (pe_dget (hu_of hr) (pv 3) (pv 10) (fun _ _ => rfl)) pe_int (nomark _))
            (pss_one (ps_expr (pe_bm PySem.F.plainAttrs_list PySem.F.slot_list_append PySem.F.type_list_append mt_append (pv 8) (pa_cons (pv 10) pa_nil)))) pss_nil))))))))
      (pss_one (ps_ret (pv 7))))))))), ?_⟩
    -- takers = {}
    intro dt hdt
    have ndt : dg ≠ dt := ne_of_none hg hdt
    -- for name in gates: takers[name] = []
    refine ⟨dg, .dK (gatesK tb), (by rw [upd_ne ndt]; exact hg), trivial, fun od => ?_⟩
    refine ⟨_, rfl, dg, od, rfl, .inl ⟨gatesK tb, upd_same, for_it w_keys
      (fun i σ H' => ∃ v tl, σ = [some (.ref dg), some (.ref dt), v, none, none, none, none, none, none, none, none] ∧ tl.map Prod.fst = (nmsOf tb).take i ∧ H' dg = some (.frz od (.dK (gatesK tb))) ∧ TK H H' dt tl (fun _ => []) ∧ SameX dg H H') ?_ ?_ ?_ ?_⟩⟩
    · refine ⟨none, [], rfl, rfl, upd_same, ⟨by rw [upd_ne (Ne.symm ndt)]; exact upd_same, List.nodup_nil, (fun q h => by cases h), (fun q h => by cases h)⟩, fun b o e hb => ?_⟩
      rw [upd_ne hb, upd_ne (ne_of_none e hdt)]
      exact e
    · rintro i σ H1 _ ⟨v, tl, rfl, _, hd, _⟩
      exact hd
    · rintro i x σ H1 H2 hi ⟨v, tl, rfl, htl, hd, hT, hs⟩ ⟨rfl, k, v', hk, rfl⟩
      obtain ⟨r, hri, rfl, rfl⟩ := gates_item hk
      have hnm := nms_item hri
      refine ⟨(by show 0 ≤ sizeLine; decide), fun p hp => ?_⟩
      have hp0 := hs.free hd hp
      have n1 : dt ≠ p := ne_of_none hT.dict hp
      have n2 : dg ≠ p := ne_of_none hd hp
      have htlen : tl.length ≤ tb.length := by
        have := congrArg List.length htl
        rw [List.length_map, List.length_take] at this
        simp at this
        omega
      have hnew : r.pg.name ∉ tl.map Prod.fst := by
        rw [htl]
        exact not_in_take hnd hnm
      refine ⟨_, rfl, _, rfl, dt, _, rfl, DPut.k (k := Sum.inr r.pg.name) (by rw [upd_ne n1]; exact hT.dict) ?_, ?_⟩
      · rw [takK_len]
        exact Nat.lt_of_le_of_lt (show tl.length ≤ 1024 by omega) (by decide)
      rw [takK_new hnew]
      refine ⟨_, tl ++ [(r.pg.name, p)], rfl, ?_, ?_, ⟨upd_same, ?_, fun q hq => ?_, fun q hq => ?_⟩, fun b o e hb => ?_⟩
      · rw [List.map_append, htl, take_more hnm]
        rfl
      · rw [upd_ne ndt, upd_ne n2]
        exact hd
      · rw [List.map_append, List.nodup_append]
        refine ⟨hT.nd, by simp, fun a ha b hb e => ?_⟩
        obtain ⟨q, hq, rfl⟩ := List.mem_map.mp ha
        have hb' : b = p := by simpa using hb
        exact ne_of_none (hT.lst q hq) hp (e.trans hb')
      · rcases List.mem_append.mp hq with h | h
        · have h1 : q.2 ≠ dt := ne_of (hT.lst q h) hT.dict (by intro z; cases z)
          rw [upd_ne h1, upd_ne (ne_of_none (hT.lst q h) hp)]
          exact hT.lst q h
        · rw [List.mem_singleton.mp h]
          show (upd (upd H2 p (.lst [])) dt _) p = _
          rw [upd_ne (Ne.symm n1)]
          exact upd_same
      · rcases List.mem_append.mp hq with h | h
        · exact hT.new q h
        · rw [List.mem_singleton.mp h]
          exact hp0
      · rw [upd_ne (ne_of_none e hdt), upd_ne (ne_of_none e hp0)]
        exact hs b o e hb
    rintro σ H1 ⟨v1, tl, rfl, htl, hd1, hT1, hs1⟩
    have htl' : tl.map Prod.fst = nmsOf tb := by
      rw [htl]
      exact List.take_of_length_le (by simp)
    have hfn : (tl.map Prod.fst).Nodup := by rw [htl']; exact hnd
    have htl2 : tl.length = tb.length := by
      have := congrArg List.length htl'
      simpa using this
    refine ⟨hd1, ?_⟩
    have hS1 := hs1.unlock hg
    have hT2 : TK H (upd H1 dg (.dK (gatesK tb))) dt tl (fun _ => []) := hT1.keep (Ne.symm ndt) fun q h => by
      have := hT1.lst q h
      intro e
      rw [e, hd1] at this
      cases this
    have hd2 : (upd H1 dg (.dK (gatesK tb))) dg = some (.dK (gatesK tb)) := upd_same
    generalize upd H1 dg (.dK (gatesK tb)) = H2 at hS1 hT2 hd2 ⊢
    -- waits = {}
    intro dw hdw
    have hdw0 : H dw = none := hS1.free hdw
    have n3 : dt ≠ dw := ne_of_none hT2.dict hdw
    have n4 : dg ≠ dw := ne_of_none hd2 hdw
    have haw3 : ∀ g ∈ nmsOf tb, (aw g).length ≤ 3 := by
      intro g hgm
      obtain ⟨r, hr', rfl⟩ := List.mem_map.mp hgm
      rw [haw r hr']
      have h1 : (awR (nmsOf tb) r.pg).length ≤ r.pg.now.length := List.length_filter_le _ _
      have h2 : r.pg.now.length ≤ r.pg.src.length := by
        unfold PG.now
        split
        · exact Nat.zero_le _
        · exact Nat.le_refl _
      have h3 := hsrc r hr'
      omega
    have hawm : ∀ g ∈ nmsOf tb, ∀ x ∈ aw g, x ∈ nmsOf tb := by
      intro g hgm x hx
      obtain ⟨r, hr', rfl⟩ := List.mem_map.mp hgm
      rw [haw r hr'] at hx
      exact of_decide_eq_true (List.mem_filter.mp hx).2
    -- for name, gate in gates.items():
    refine ⟨dg, .dK (gatesK tb), (by rw [upd_ne n4]; exact hd2), trivial, fun od2 => ?_⟩
    refine ⟨_, rfl, dg, od2, gatesK tb, rfl, upd_same, for_it w_items
      (fun i σ H' => ∃ v2 v4 v5 v6, σ = [some (.ref dg), some (.ref dt), v2, some (.ref dw), v4, v5, v6, none, none, none, none] ∧ H' dg = some (.frz od2 (.dK (gatesK tb))) ∧ TK H H' dt tl (tk ((nmsOf tb).take i) aw) ∧
        H' dw = some (.dK (wK ((nmsOf tb).take i) fun g => (aw g).length)) ∧ SameX dg H H') ?_ ?_ ?_ ?_⟩
    · refine ⟨_, _, _, _, rfl, upd_same, ?_, ?_, fun b o e hb => ?_⟩
      · refine ((hT2.keep (o := .dK []) n3 fun q h => ne_of_none (hT2.lst q h) hdw).keep (o := .frz od2 (.dK (gatesK tb))) (Ne.symm ndt) fun q h => ?_).congr fun x => rfl
        intro e
        have h1 := hT2.lst q h
        rw [e, hd2] at h1
        cases h1
      · rw [upd_ne (Ne.symm n4)]
        exact upd_same
      · rw [upd_ne hb, upd_ne (ne_of_none e hdw0)]
        exact hS1 b o e
    · rintro i σ H3 _ ⟨_, _, _, _, rfl, hd, _⟩
      exact hd
    · rintro i x σ H3 H4 hi ⟨v2, v4, v5, v6, rfl, hd, hT, hw, hs⟩ ⟨Tp, k, v', hk, rfl, hTp, rfl⟩
      obtain ⟨r, hri, rfl, rfl⟩ := gates_item hk
      have hrm : r ∈ tb := List.mem_of_getElem? hri
      have hnm := nms_item hri
      have hTp0 := hs.free hd hTp
      -- the heap with the pair
      have sT : Same H3 (upd H3 Tp (.tup [kV (Sum.inr r.pg.name), .ref r.ga])) := Same.upd_own hTp
      refine ⟨Tp, _, rfl, SqT.of upd_same, rfl, _, _, rfl, _, _, rfl, rfl, ?_⟩
      have g0 := hG r hrm
      have gd : r.ga ≠ dg := ne_of g0.ob hg (by intro z; cases z)
      have gs_ : r.sa ≠ dg := ne_of g0.src hg (by intro z; cases z)
      refine ⟨_, rfl, r, rfl, ⟨sT _ _ (hs _ _ g0.ob gd), sT _ _ (hs _ _ g0.src gs_)⟩, fun ls Hc sc hls => ?_⟩
      have hdc : Hc dg = some (.frz od2 (.dK (gatesK tb))) := sc _ _ (sT _ _ hd)
      have sC : Same H3 Hc := sT.trans sc
      have hawr : aw r.pg.name = awR (nmsOf tb) r.pg := haw r hrm
      refine ⟨ls, rfl, ⟨_, SqL.of hls⟩, fun D hD => lc_list (K := K) (a := ls) (xs := r.pg.now.map V.str) (fun j H' => Same Hc H' ∧ H' D = some (.lst (((r.pg.now.take j).filter fun x => decide (x ∈ nmsOf tb)).map V.str))) ?_ ?_ ?_ ?_⟩
      · exact ⟨Same.upd_own hD, upd_same⟩
      · rintro j H' _ ⟨s2, _⟩
        exact SqL.of (s2 _ _ hls)
      · rintro j x H' hj ⟨s2, h5⟩
        obtain ⟨z, hz, rfl⟩ := str_item hj
        refine ⟨rfl, _, rfl, _, rfl, dg, _, rfl, .inl ⟨gatesK tb, Sum.inr z, .inr ⟨od2, s2 _ _ hdc⟩, rfl, rfl⟩, _, rfl, ?_⟩
        rw [valV_gates]
        have h3 : r.pg.now.length ≤ 3 := by
          have := hsrc r hrm
          unfold PG.now
          split
          · exact Nat.zero_le _
          · exact this
        by_cases hzm : z ∈ nmsOf tb
        · refine if_t (decide_eq_true hzm) ⟨_, rfl, _, h5, ?_, Same.upd_new s2 hD, ?_⟩
          · rw [List.length_map]
            have h1 : ((r.pg.now.take j).filter fun x => decide (x ∈ nmsOf tb)).length ≤ (r.pg.now.take j).length := List.length_filter_le _ _
            rw [List.length_take] at h1
            exact Nat.lt_of_le_of_lt (show _ ≤ 3 by omega) (by decide)
          · rw [upd_same, take_more hz, List.filter_append, List.map_append, filt_pos (p := fun x => decide (x ∈ nmsOf tb)) (decide_eq_true hzm)]
            rfl
        · refine if_f (decide_eq_false hzm) ⟨s2, ?_⟩
          rw [h5, take_more hz, List.filter_append, filt_neg (p := fun x => decide (x ∈ nmsOf tb)) (decide_eq_false hzm), List.append_nil]
      · rintro H5 ⟨s2, h5⟩
        rw [List.length_map, List.take_length] at h5
        have h5' : H5 D = some (.lst ((aw r.pg.name).map V.str)) := by rw [hawr]; exact h5
        have s5 : Same H3 H5 := sC.trans s2
        have hT5 := hT.same s5
        have hw5 := s5 _ _ hw
        have hd5 := s5 _ _ hd
        have hD0 : H D = none := hs.free hd (by
          cases e : H3 D with
          | none => rfl
          | some o => rw [sC _ _ e] at hD; cases hD)
        have hDt : ∀ q ∈ tl, q.2 ≠ D := fun q h => ne_of_none (sC _ _ (hT.lst q h)) hD
        have nDw : D ≠ dw := ne_of h5' hw5 (by intro z; cases z)
        have ntw : ∀ q ∈ tl, q.2 ≠ dw := fun q h => ne_of (hT5.lst q h) hw5 (by intro z; cases z)
        have hnot : r.pg.name ∉ (nmsOf tb).take i := not_in_take hnd hnm
        have hitl : ((nmsOf tb).take i).length ≤ 1024 := by
          rw [List.length_take, List.length_map]
          omega
        -- waits[name] = len(awaited)
        refine ⟨_, rfl, D, _, rfl, .inl (SqL.of h5'), _, rfl, _, rfl, dw, _, rfl, DPut.k (k := Sum.inr r.pg.name) hw5 ?_, ?_⟩
        · rw [wK_len]
          exact Nat.lt_of_le_of_lt hitl (by decide)
        have ew : putK (wK ((nmsOf tb).take i) fun g => (aw g).length) (Sum.inr r.pg.name) (.int (((aw r.pg.name).map V.str).length : Nat)) = wK ((nmsOf tb).take (i + 1)) fun g => (aw g).length := by
          rw [List.length_map, take_more hnm]
          exact wK_new (f := fun g => (aw g).length) hnot
        rw [ew]
        -- for source in awaited: takers[source].append(name)
        refine ⟨_, rfl, D, rfl, ⟨_, SqL.of (by rw [upd_ne nDw]; exact h5')⟩, for_list (K := K) (a := D) (xs := (aw r.pg.name).map V.str)
          (fun j σ H6 => ∃ v5, σ = [some (.ref dg), some (.ref dt), some (.str r.pg.name), some (.ref dw), some (.ref r.ga), v5, some (.ref D), none, none, none, none] ∧ H6 dg = some (.frz od2 (.dK (gatesK tb))) ∧
            TK H H6 dt tl (fun x => tk ((nmsOf tb).take i) aw x ++ List.replicate (((aw r.pg.name).take j).count x) r.pg.name) ∧ H6 dw = some (.dK (wK ((nmsOf tb).take (i + 1)) fun g => (aw g).length)) ∧ SameX dg H H6 ∧ H6 D = some (.lst ((aw r.pg.name).map V.str))) ?_ ?_ ?_ ?_⟩
        · refine ⟨_, rfl, ?_, ?_, upd_same, fun b o e hb => ?_, ?_⟩
          · rw [upd_ne n4]
            exact hd5
          · exact (hT5.keep n3 ntw).congr fun x => by simp
          · rw [upd_ne (ne_of_none e hdw0)]
            exact s5 _ _ (hs b o e hb)
          · rw [upd_ne nDw]
            exact h5'
        · rintro j σ H6 _ ⟨_, rfl, _, _, _, _, hD6⟩
          exact SqL.of hD6
        · rintro j x σ H6 hj ⟨v5', rfl, hd6, hT6, hw6, hs6, hD6⟩
          obtain ⟨z, hz, rfl⟩ := str_item hj
          have hzg : z ∈ tl.map Prod.fst := by
            rw [htl']
            exact hawm r.pg.name (List.mem_map.mpr ⟨r, hrm, rfl⟩) z (List.mem_of_getElem? hz)
          obtain ⟨a, ha, hv⟩ := takK_val hzg
          have hla : H6 a = some (.lst ((tk ((nmsOf tb).take i) aw z ++ List.replicate (((aw r.pg.name).take j).count z) r.pg.name).map V.str)) := hT6.lst (z, a) ha
          refine ⟨_, rfl, _, rfl, dt, .ref a, rfl, (by rw [← hv]; exact DGet.k (k := Sum.inr z) hT6.dict), .inl ⟨rfl, _, SqL.of hla⟩, _, rfl, a, _, _, rfl, rfl, hla, ?_, ?_⟩
          · rw [List.length_map, List.length_append, List.length_replicate]
            have h1 := tk_len aw z ((nmsOf tb).take i) fun g hg' => haw3 g (List.mem_of_mem_take hg')
            have h2 : ((aw r.pg.name).take j).count z ≤ ((aw r.pg.name).take j).length := List.count_le_length
            have h3 := haw3 r.pg.name (List.mem_map.mpr ⟨r, hrm, rfl⟩)
            rw [List.length_take] at h2
            exact Nat.lt_of_le_of_lt (show _ ≤ 4000 by omega) (by decide)
          · have na : a ≠ dw := ntw (z, a) ha
            have nd_ : a ≠ dg := by
              intro e
              rw [e] at hla
              rw [hd6] at hla
              cases hla
            refine ⟨_, rfl, ?_, ?_, ?_, fun b o e hb => ?_, ?_⟩
            · rw [upd_ne (Ne.symm nd_)]
              exact hd6
            · refine (hT6.app (q := (z, a)) (n := r.pg.name) hfn ha).congr fun x => ?_
              show (if x = z then (tk ((nmsOf tb).take i) aw x ++ List.replicate (((aw r.pg.name).take j).count x) r.pg.name) ++ [r.pg.name] else tk ((nmsOf tb).take i) aw x ++ List.replicate (((aw r.pg.name).take j).count x) r.pg.name) = _
              rw [rep_step _ j z x r.pg.name hz]
              split
              · rw [List.append_assoc]
              · rfl
            · rw [upd_ne (Ne.symm na)]
              exact hw6
            · rw [upd_ne (ne_of_none e (hT6.new (z, a) ha))]
              exact hs6 b o e hb
            · rw [upd_ne (Ne.symm (hDt (z, a) ha))]
              exact hD6
        · rintro σ H6 ⟨v5', rfl, hd6, hT6, hw6, hs6, hD6⟩
          rw [List.length_map, List.take_length] at hT6
          refine ⟨_, _, _, _, rfl, hd6, hT6.congr fun x => ?_, hw6, hs6⟩
          rw [take_more hnm, tk_snoc]
    rintro σ H3 ⟨v2, v4, v5, v6, rfl, hd3, hT3, hw3, hs3⟩
    have htake : (nmsOf tb).take tb.length = nmsOf tb := List.take_of_length_le (by simp)
    rw [htake] at hT3 hw3
    refine ⟨hd3, ?_⟩
    have hS3 := hs3.unlock hg
    have hT4 : TK H (upd H3 dg (.dK (gatesK tb))) dt tl (tk (nmsOf tb) aw) := hT3.keep (Ne.symm ndt) fun q h => by
      have := hT3.lst q h
      intro e
      rw [e, hd3] at this
      cases this
    have hw4 : (upd H3 dg (.dK (gatesK tb))) dw = some (.dK (wK (nmsOf tb) fun g => (aw g).length)) := by rw [upd_ne (Ne.symm n4)]; exact hw3
    have hd4 : (upd H3 dg (.dK (gatesK tb))) dg = some (.dK (gatesK tb)) := upd_same
    generalize upd H3 dg (.dK (gatesK tb)) = H4 at hS3 hT4 hd4 hw4 ⊢
    -- order = []
    refine ⟨(by show 0 ≤ sizeLine; decide), fun dq hdq => ?_⟩
    have hdq0 : H dq = none := hS3.free hdq
    have m1 : dg ≠ dq := ne_of_none hd4 hdq
    have m2 : dw ≠ dq := ne_of_none hw4 hdq
    have m3 : dt ≠ dq := ne_of_none hT4.dict hdq
    have m4 : ∀ q ∈ tl, q.2 ≠ dq := fun q h => ne_of_none (hT4.lst q h) hdq
    -- ready = [name for name in gates if waits[name] == 0]
    refine ⟨dg, .dK (gatesK tb), (by rw [upd_ne m1]; exact hd4), trivial, fun od3 => ?_⟩
    refine ⟨_, rfl, dg, od3, rfl, .inl ⟨gatesK tb, upd_same, fun D hD => lc_it w_keys
      (fun i H' => Same (upd (upd H4 dq (.lst [])) dg (.frz od3 (.dK (gatesK tb)))) H' ∧ H' D = some (.lst ((((nmsOf tb).take i).filter fun g => decide (((aw g).length : Int) = 0)).map V.str))) ?_ ?_ ?_ ?_⟩⟩
    · exact ⟨Same.upd_own hD, upd_same⟩
    · rintro i H5 _ ⟨s5, _⟩
      exact s5 _ _ upd_same
    · rintro i x H5 H6 hi ⟨s5, h5⟩ ⟨rfl, k, v', hk, rfl⟩
      obtain ⟨r, hri, rfl, rfl⟩ := gates_item hk
      have hrm : r ∈ tb := List.mem_of_getElem? hri
      have hnm := nms_item hri
      have hw5 : H6 dw = some (.dK (wK (nmsOf tb) fun g => (aw g).length)) := s5 _ _ (by rw [upd_ne (Ne.symm n4), upd_ne m2]; exact hw4)
      have hmem : r.pg.name ∈ nmsOf tb := List.mem_map.mpr ⟨r, hrm, rfl⟩
      refine ⟨rfl, _, rfl, _, rfl, dw, .int ((aw r.pg.name).length : Nat), rfl, (by rw [← wK_val (f := fun g => (aw g).length) hmem]; exact DGet.k (k := Sum.inr r.pg.name) hw5), rfl, _, rfl, ?_⟩
      by_cases h0 : ((aw r.pg.name).length : Int) = 0
      · refine if_t (decide_eq_true (congrArg V.int h0)) ⟨_, rfl, _, h5, ?_, Same.upd_new s5 hD, ?_⟩
        · rw [List.length_map]
          have h1 : (((nmsOf tb).take i).filter fun g => decide (((aw g).length : Int) = 0)).length ≤ ((nmsOf tb).take i).length := List.length_filter_le _ _
          rw [List.length_take, List.length_map] at h1
          exact Nat.lt_of_le_of_lt (show _ ≤ 1024 by omega) (by decide)
        · rw [upd_same, take_more hnm, List.filter_append, List.map_append, filt_pos (p := fun g => decide (((aw g).length : Int) = 0)) (decide_eq_true h0)]
          rfl
      · refine if_f (decide_eq_false fun e => h0 (V.int.inj e)) ⟨s5, ?_⟩
        rw [h5, take_more hnm, List.filter_append, filt_neg (p := fun g => decide (((aw g).length : Int) = 0)) (decide_eq_false h0), List.append_nil]
    rintro H5 ⟨s5, h5⟩
    rw [htake] at h5
    refine ⟨s5 _ _ upd_same, ?_⟩
    have nDg : D ≠ dg := by
      intro e
      have := s5 _ _ (upd_same (H := upd H4 dq (.lst [])) (a := dg) (o := .frz od3 (.dK (gatesK tb))))
      rw [e, this] at h5
      cases h5
    have hDb : (upd H4 dq (.lst [])) D = none := by rw [upd_ne nDg] at hD; exact hD
    have nDq : D ≠ dq := fun e => by rw [e, upd_same] at hDb; cases hDb
    have hD4 : H4 D = none := by rw [upd_ne nDq] at hDb; exact hDb
    have hS6 : Same H (upd H5 dg (.dK (gatesK tb))) := fun b o e => by
      by_cases hb : b = dg
      · subst hb
        rw [hg] at e
        cases e
        exact upd_same
      · rw [upd_ne hb]
        refine s5 b o ?_
        rw [upd_ne hb, upd_ne (ne_of_none e hdq0)]
        exact hS3 b o e
    have keep6 : ∀ b o, H4 b = some o → b ≠ dg → b ≠ dq → (upd H5 dg (.dK (gatesK tb))) b = some o := fun b o e hb hq => by
      rw [upd_ne hb]
      refine s5 b o ?_
      rw [upd_ne hb, upd_ne hq]
      exact e
    have hT6 : TK H (upd H5 dg (.dK (gatesK tb))) dt tl (tk (nmsOf tb) aw) := by
      refine ⟨keep6 _ _ hT4.dict (Ne.symm ndt) m3, hT4.nd, fun q h => keep6 _ _ (hT4.lst q h) ?_ (m4 q h), hT4.new⟩
      exact ne_of (hT4.lst q h) hd4 (by intro z; cases z)
    have hw6 := keep6 _ _ hw4 (Ne.symm n4) m2
    have hq6 : (upd H5 dg (.dK (gatesK tb))) dq = some (.lst (([] : List Str).map V.str)) := by
      rw [upd_ne (Ne.symm m1)]
      refine s5 _ _ ?_
      rw [upd_ne (Ne.symm m1)]
      exact upd_same
    have hr6 : (upd H5 dg (.dK (gatesK tb))) D = some (.lst (((nmsOf tb).filter fun g => decide (((aw g).length : Int) = 0)).map V.str)) := by
      rw [upd_ne nDg]
      exact h5
    have mD : ∀ q ∈ tl, q.2 ≠ D := fun q h => ne_of_none (hT4.lst q h) hD4
    have hD0 : H D = none := hS3.free hD4
    generalize upd H5 dg (.dK (gatesK tb)) = H6 at hS6 keep6 hT6 hw6 hq6 hr6 ⊢
    -- while len(ready) > 0:
    refine while_by (fun σ H' => ∃ (order ready : List Str) (wf : Str → Nat) (v2 v4 v5 v6 v9 v10 : Option V), σ = [some (.ref dg), some (.ref dt), v2, some (.ref dw), v4, v5, v6, some (.ref dq), some (.ref D), v9, v10] ∧
      KInv (nmsOf tb) aw order ready wf [] ∧ H' dq = some (.lst (order.map V.str)) ∧ H' D = some (.lst (ready.map V.str)) ∧ H' dw = some (.dK (wK (nmsOf tb) wf)) ∧ TK H H' dt tl (tk (nmsOf tb) aw) ∧ Same H H') (fun _ H' => tb.length - lenAt H' dq) ?_ ?_ ?_
    · exact ⟨[], _, _, _, _, _, _, _, _, rfl, KInv.start hnd, hq6, hr6, hw6, hT6, hS6⟩
    · rintro σ H7 ⟨order, ready, wf, w2, w4, w5, w6, w9, w10, rfl, kI, ho, hrd, hw7, hT7, hS7⟩
      refine ⟨_, rfl, D, _, rfl, .inl (SqL.of hrd), _, _, rfl, rfl, _, rfl, ?_⟩
      rcases List.eq_nil_or_concat ready with rfl | ⟨r', d, rfl⟩
      · refine if_f rfl ?_
        exact ⟨_, rfl, q H7 dq order wf hS7 hdq0 ho kI⟩
      rw [List.concat_eq_append] at kI hrd ⊢
      refine if_t (decide_eq_true (by simp)) ?_
      obtain ⟨hdm, kP⟩ := kI.pop hnd
      have hmost := kP.most
      rw [List.length_append, List.length_map] at hmost
      simp only [List.length_cons, List.length_nil] at hmost
      -- done = ready.pop()
      refine ⟨_, rfl, .inl ⟨rfl, _, SqL.of hrd⟩, D, _, .str d, rfl, rfl, hrd, (by simp), ?_⟩
      have edl : ((r' ++ [d]).map V.str).dropLast = r'.map V.str := by rw [List.map_append]; simp
      rw [edl]
      -- order.append(done)
      refine ⟨_, rfl, .inl ⟨rfl, _, SqL.of (by rw [upd_ne (Ne.symm nDq)]; exact ho)⟩, _, rfl, dq, _, _, rfl, rfl, (by rw [upd_ne (Ne.symm nDq)]; exact ho), ?_, ?_⟩
      · rw [List.length_map]
        exact Nat.lt_of_le_of_lt (show order.length ≤ 1024 by omega) (by decide)
      have eo : order.map V.str ++ [V.str d] = (order ++ [d]).map V.str := by rw [List.map_append]; rfl
      rw [eo]
      have nDw : D ≠ dw := ne_of hrd hw7 (by intro z; cases z)
      have nDt : dt ≠ D := ne_of hT7.dict hrd (by intro z; cases z)
      have hT8 : TK H (upd (upd H7 D (.lst (r'.map V.str))) dq (.lst ((order ++ [d]).map V.str))) dt tl (tk (nmsOf tb) aw) := (hT7.keep nDt mD).keep m3 m4
      have hS8 : Same H (upd (upd H7 D (.lst (r'.map V.str))) dq (.lst ((order ++ [d]).map V.str))) := Same.upd_new (Same.upd_new hS7 hD0) hdq0
      have hw8 : (upd (upd H7 D (.lst (r'.map V.str))) dq (.lst ((order ++ [d]).map V.str))) dw = some (.dK (wK (nmsOf tb) wf)) := by rw [upd_ne m2, upd_ne (Ne.symm nDw)]; exact hw7
      have hr8 : (upd (upd H7 D (.lst (r'.map V.str))) dq (.lst ((order ++ [d]).map V.str))) D = some (.lst (r'.map V.str)) := by rw [upd_ne nDq]; exact upd_same
      have ho8 : (upd (upd H7 D (.lst (r'.map V.str))) dq (.lst ((order ++ [d]).map V.str))) dq = some (.lst ((order ++ [d]).map V.str)) := upd_same
      have hl7 := lenAt_of ho
      generalize upd (upd H7 D (.lst (r'.map V.str))) dq (.lst ((order ++ [d]).map V.str)) = H8 at hT8 hS8 hw8 hr8 ho8 ⊢
      obtain ⟨a, ha, hv⟩ := takK_val (s := d) (tl := tl) (by rw [htl']; exact hdm)
      -- for taker in takers[done]:
      refine ⟨_, rfl, _, rfl, dt, .ref a, rfl, (by rw [← hv]; exact DGet.k (k := Sum.inr d) hT8.dict), a, rfl, ⟨_, SqL.of (hT8.lst (d, a) ha)⟩,
        for_list (K := K) (a := a) (xs := (tk (nmsOf tb) aw d).map V.str) (fun j σ H9 => ∃ (rd : List Str) (wf2 : Str → Nat) (v2 v4 v5 v6 v9 v10 : Option V), σ = [some (.ref dg), some (.ref dt), v2, some (.ref dw), v4, v5, v6, some (.ref dq), some (.ref D), v9, v10] ∧
          KInv (nmsOf tb) aw (order ++ [d]) rd wf2 ((tk (nmsOf tb) aw d).drop j) ∧ H9 dq = some (.lst ((order ++ [d]).map V.str)) ∧ H9 D = some (.lst (rd.map V.str)) ∧ H9 dw = some (.dK (wK (nmsOf tb) wf2)) ∧ TK H H9 dt tl (tk (nmsOf tb) aw) ∧ Same H H9) ?_ ?_ ?_ ?_⟩
      · exact ⟨r', wf, _, _, _, _, _, _, rfl, kP, ho8, hr8, hw8, hT8, hS8⟩
      · rintro j σ H9 _ ⟨_, _, _, _, _, _, _, _, rfl, _, _, _, _, hT9, _⟩
        exact SqL.of (hT9.lst (d, a) ha)
      · rintro j x σ H9 hj ⟨rd, wf2, u2, u4, u5, u6, u9, u10, rfl, k9, ho9, hr9, hw9, hT9, hS9⟩
        obtain ⟨z, hz, rfl⟩ := str_item hj
        have hzg : z ∈ nmsOf tb := tk_mem (List.mem_of_getElem? hz)
        have edrop : (tk (nmsOf tb) aw d).drop j = z :: (tk (nmsOf tb) aw d).drop (j + 1) := by
          obtain ⟨hj', ez⟩ := List.getElem?_eq_some_iff.mp hz
          rw [List.drop_eq_getElem_cons hj', ez]
        rw [edrop] at k9
        obtain ⟨w1, kS⟩ := k9.step hzg
        -- waits[taker] -= 1
        refine ⟨_, rfl, _, rfl, dw, .int (wf2 z : Nat), rfl, (by rw [← wK_val (f := wf2) hzg]; exact DGet.k (k := Sum.inr z) hw9), _, _, rfl, rfl, _, DPut.k (k := Sum.inr z) hw9 ?_, ?_⟩
        · rw [wK_len, List.length_map]
          exact Nat.lt_of_le_of_lt hlen (by decide)
        have e1 : ((wf2 z : Nat) : Int) - 1 = ((wf2 z - 1 : Nat) : Int) := by omega
        rw [e1, wK_put (wf2 z - 1) hzg]
        have q1 : dq ≠ dw := Ne.symm m2
        have hT10 : TK H (upd H9 dw (.dK (wK (nmsOf tb) fun x => if x = z then wf2 z - 1 else wf2 x))) dt tl (tk (nmsOf tb) aw) := hT9.keep n3 fun q h => ne_of (hT9.lst q h) hw9 (by intro z; cases z)
        have hS10 : Same H (upd H9 dw (.dK (wK (nmsOf tb) fun x => if x = z then wf2 z - 1 else wf2 x))) := Same.upd_new hS9 hdw0
        have ho10 : (upd H9 dw (.dK (wK (nmsOf tb) fun x => if x = z then wf2 z - 1 else wf2 x))) dq = some (.lst ((order ++ [d]).map V.str)) := by rw [upd_ne q1]; exact ho9
        have hr10 : (upd H9 dw (.dK (wK (nmsOf tb) fun x => if x = z then wf2 z - 1 else wf2 x))) D = some (.lst (rd.map V.str)) := by rw [upd_ne nDw]; exact hr9
        have hw10 : (upd H9 dw (.dK (wK (nmsOf tb) fun x => if x = z then wf2 z - 1 else wf2 x))) dw = some (.dK (wK (nmsOf tb) fun x => if x = z then wf2 z - 1 else wf2 x)) := upd_same
        generalize upd H9 dw (.dK (wK (nmsOf tb) fun x => if x = z then wf2 z - 1 else wf2 x)) = H10 at hT10 hS10 ho10 hr10 hw10 ⊢
        have hval : valV (wK (nmsOf tb) fun x => if x = z then wf2 z - 1 else wf2 x) (Sum.inr z) = some (.int ((wf2 z - 1 : Nat) : Nat)) := by
          rw [wK_val hzg]
          simp
        -- if waits[taker] == 0:
        refine ⟨_, rfl, _, rfl, dw, .int ((wf2 z - 1 : Nat) : Nat), rfl, (by rw [← hval]; exact DGet.k (k := Sum.inr z) hw10), rfl, _, rfl, ?_⟩
        by_cases h0 : wf2 z - 1 = 0
        · rw [if_pos h0] at kS
          refine if_t (decide_eq_true (by rw [h0]; rfl)) ?_
          have hmost2 := kS.most
          rw [List.length_append, List.length_map] at hmost2
          refine ⟨_, rfl, .inl ⟨rfl, _, SqL.of hr10⟩, _, rfl, D, _, _, rfl, rfl, hr10, ?_, ?_⟩
          · rw [List.length_map]
            rw [List.length_append] at hmost2
            exact Nat.lt_of_le_of_lt (show rd.length ≤ 1024 by omega) (by decide)
          · refine ⟨rd ++ [z], _, _, _, _, _, _, _, rfl, kS, ?_, ?_, ?_, hT10.keep nDt mD, Same.upd_new hS10 hD0⟩
            · rw [upd_ne (Ne.symm nDq)]
              exact ho10
            · rw [upd_same, List.map_append]
              rfl
            · rw [upd_ne (Ne.symm nDw)]
              exact hw10
        · rw [if_neg h0] at kS
          refine if_f (decide_eq_false fun e => h0 ?_) ?_
          · have := V.int.inj e
            omega
          · exact ⟨rd, _, _, _, _, _, _, _, rfl, kS, ho10, hr10, hw10, hT10, hS10⟩
      · rintro σ H9 ⟨rd, wf2, u2, u4, u5, u6, u9, u10, rfl, k9, ho9, hr9, hw9, hT9, hS9⟩
        rw [List.length_map, List.drop_length] at k9
        refine ⟨⟨order ++ [d], rd, wf2, _, _, _, _, _, _, rfl, k9, ho9, hr9, hw9, hT9, hS9⟩, ?_⟩
        have hl9 := lenAt_of ho9
        rw [hl9, hl7, List.length_map, List.length_map, List.length_append]
        simp only [List.length_cons, List.length_nil]
        omega
    · rintro σ H' Q1 Q2 m ⟨a1, a2, a3, a4, a5, a6, a7, a8, a9, a10, a11, a12, a13⟩
      exact ⟨a1, a2, a3, a4, a5, a6, a7, a8, a9, a10, a11, a12, m _ _ a13⟩
end
end GN
namespace GN
open PySem PySem.Spec PyProof.Rows L2
/-! ### few sources -/
def PFew (p : PN) : Prop := ∀ g ∈ p.gates, g.src.length ≤ 3
theorem kc_le {z : Str} {c : Nat} (h : kc z = some c) : c ≤ 3 := by
  unfold kc at h
  have key : ∀ {q : Prop} [Decidable q] {a : Nat} {t : Option Nat}, (if q then some a else t) = some c → a ≤ 3 → (t = some c → c ≤ 3) → c ≤ 3 := by
    intro q _ a t h ha ht
    by_cases hq : q
    · rw [if_pos hq] at h
      cases h
      exact ha
    · rw [if_neg hq] at h
      exact ht h
  refine key h (by decide) fun h => ?_
  refine key h (by decide) fun h => ?_
  refine key h (by decide) fun h => ?_
  refine key h (by decide) fun h => ?_
  refine key h (by decide) fun h => ?_
  refine key h (by decide) fun h => ?_
  refine key h (by decide) fun h => ?_
  refine key h (by decide) fun h => ?_
  refine key h (by decide) fun h => ?_
  refine key h (by decide) fun h => ?_
  refine key h (by decide) fun h => ?_
  refine key h (by decide) fun h => ?_
  refine key h (by decide) fun h => ?_
  refine key h (by decide) fun h => ?_
  cases h
theorem pIns_gates : ∀ {r : List Str} {p q : PN}, r.foldlM pIn p = some q → q.gates = p.gates
  | [], p, q, e => by cases e; rfl
  | z :: r, p, q, e => by
    rw [List.foldlM_cons] at e
    unfold pIn at e
    split at e
    · exact pIns_gates (p := { p with ins := p.ins ++ [z] }) e
    · cases e
theorem pLine_few {p q : PN} {ws : List Str} (h : PFew p) (e : pLine p ws = some q) : PFew q := by
  unfold pLine at e
  split at e
  · cases e; exact h
  · split at e
    · split at e
      · cases e
      · intro g hg
        rw [pIns_gates e] at hg
        exact h g hg
    · split at e
      · split at e
        · cases e
        · cases e; exact h
      · split at e
        · unfold pGate at e
          split at e
          · split at e
            · rename_i c hk
              split at e
              · rename_i hc
                cases e
                intro g hg
                rcases List.mem_append.mp hg with z | z
                · exact h g z
                · rw [List.mem_singleton.mp z]
                  show List.length _ ≤ 3
                  rw [hc.1]
                  exact kc_le hk
              · cases e
            · cases e
          · cases e
        · cases e
theorem parse_few : ∀ {L : List (List Str)} {p q : PN}, PFew p → L.foldlM pLine p = some q → PFew q
  | [], p, q, h, e => by cases e; exact h
  | l :: L, p, q, h, e => by
    rw [List.foldlM_cons] at e
    cases z : pLine p l with
    | none => rw [z] at e; cases e
    | some k => rw [z] at e; exact parse_few (pLine_few h z) e
theorem parse_sz : ∀ {L : List (List Str)} {p q : PN}, L.foldlM pLine p = some q → q.sz ≤ p.sz + (L.map List.length).sum
  | [], p, q, e => by cases e; simp
  | l :: L, p, q, e => by
    rw [List.foldlM_cons] at e
    cases z : pLine p l with
    | none => rw [z] at e; cases e
    | some k =>
      rw [z] at e
      have h1 := pLine_sz z
      have h2 := parse_sz (show L.foldlM pLine k = some q from e)
      simp only [List.map_cons, List.sum_cons]
      omega
theorem sum_take_le : ∀ (l : List Nat) (i : Nat), (l.take i).sum ≤ l.sum
  | [], i => by simp
  | a :: l, 0 => by simp
  | a :: l, i + 1 => by
    have := sum_take_le l i
    simp only [List.take_succ_cons, List.sum_cons]
    omega
/-- the words of the program's lines -/
def wordsS (b : Sf33.Bytes) : List (List Str) := (rows b).map fun l => (wordsOf l).map en
theorem wordsS_eq (b : Sf33.Bytes) : wordsS b = (Sf33.lines b).map fun l => l.map en := by
  rw [lines_rows, List.map_map]
  rfl
theorem wordsS_sum (b : Sf33.Bytes) : ((wordsS b).map List.length).sum ≤ b.length := by
  have e : (wordsS b).map List.length = (rows b).map fun l => (wordsOf l).length := by
    unfold wordsS
    rw [List.map_map]
    refine List.map_congr_left fun l _ => ?_
    show ((wordsOf l).map en).length = _
    rw [List.length_map]
  rw [e]
  exact all_words b
theorem parse_all (b : Sf33.Bytes) : (wordsS b).foldlM pLine ⟨[], [], []⟩ = ((Sf33.lines b).foldlM rawLine emptyN).map encN := by
  rw [wordsS_eq]
  exact parse_enc fine0
theorem find_pg {l : List PG} (hn : (l.map PG.name).Nodup) {g : PG} (hg : g ∈ l) : l.find? (fun x => decide (x.name = g.name)) = some g := by
  induction l with
  | nil => cases hg
  | cons a l ih =>
    rw [List.map_cons, List.nodup_cons] at hn
    rw [List.find?_cons]
    by_cases e : a.name = g.name
    · rcases List.mem_cons.mp hg with z | z
      · subst z
        simp
      · exact absurd (by rw [e]; exact List.mem_map.mpr ⟨g, z, rfl⟩) hn.1
    · rcases List.mem_cons.mp hg with z | z
      · subst z
        exact absurd rfl e
      · simp only [e, decide_false]
        exact ih hn.2 z
section
variable {P : Program} {w : World} {K : PySem.W.Frag} {mg : Str → Option Value} {base : Heap} {CF CG CN dk rg : Addr}
theorem NOk.aw {H : Hp} {A : NAd} {p : PN} {tb : List GR} (n : NOk CN CG H A p tb) (hn : p.gn.Nodup) : ∀ r ∈ tb, p.aw r.pg.name = awR (nmsOf tb) r.pg := by
  intro r hr
  unfold PN.aw awR
  rw [find_pg hn (by rw [n.row]; exact List.mem_map.mpr ⟨r, hr, rfl⟩)]
  show r.pg.now.filter _ = _
  rw [n.gn]
/-! ### refuse_loops -/
def spLoops (CF CN CG : Addr) : Sp := fun vs H Q E => ∃ (A : NAd) (p : PN) (tb : List GR), vs = [.ref A.a] ∧ NOk CN CG H A p tb ∧ p.gn.Nodup ∧ p.gates.length ≤ 1024 ∧ PFew p ∧
  ∀ (H' : Hp) (order : List Str) (wf : Str → Nat), Same H H' → KInv p.gn p.aw order [] wf [] → (order.length < p.gn.length → Raised CF E) ∧ (¬ order.length < p.gn.length → Q .non H')
theorem scLo : FnScope ["network"] ["network"] (defScope sLoops) := ⟨rfl, rfl, rfl, by decide +kernel, rfl, by decide +kernel, by decide +kernel⟩
theorem ok_loops {f fO : Addr} {fd fdO : FuncData} (F : Fun K "refuse_loops" "refuse_loops" sLoops f fd) (T : Txt K mg CF CG CN)
    (GO : FnOk P w K mg base CX0 2 fO fdO ["gates"] (spOrder CG)) (kO : PySem.W.keepIn K (.ref fO) = true) (bO : Binds K fdO ["gates"] []) (mO : mg "order_gates" = some (.ref fO)) :
    FnOk P w K mg base (L2.CX P w) 3 f fd ["network"] (spLoops CF CN CG) := by
  refine F.okX scLo (fun vs H Q E h => ?_) (fun cdv A outer s H vs Q E hr h => ?_)
  · obtain ⟨A, p, tb, rfl, _⟩ := h
    rfl
  · obtain ⟨A, p, tb, rfl, n, hn, hl, hf, k⟩ := h
    have hg : tb.length = p.gates.length := by rw [n.row, List.length_map]
    have hgn : p.gn.length = p.gates.length := by simp [PN.gn]
    refine ⟨_, pss_one (ps_if (pt_cmpR op_lt (pe_callB call_len_seq (by rfl) T.len PySem.boot_len (pa_cons (pe_call GO hr rfl mO kO bO .nil pass0 (pa_cons (pe_fld (pv 0) rfl) pa_nil)) pa_nil))
        (pe_callB call_lenD (by rfl) T.len PySem.boot_len (pa_cons (pe_fld (pv 0) rfl) pa_nil)) (nomark _))
      (pss_one (ps_raise rfl (takes_of rfl rfl rfl rfl) (pmk_own0 PySem.F.excBase_ValueError T.xF T.gF T.kF (raises_own T.bF T.tF) rfl))) pss_nil), ?_⟩
    refine ⟨_, rfl, A.a, CN, A.dx, _, _, rfl, n.ob, T.cN, T.nG, nF_gates A, A.dg, tb, p.aw, rfl, n.gates, n.each, (by have e : p.gn = nmsOf tb := n.gn; rw [← e]; exact hn), (by omega), ?_, n.aw hn, fun H1 l order wf s1 _ hl1 kI => ?_⟩
    · intro r hr'
      exact hf r.pg (by rw [n.row]; exact List.mem_map.mpr ⟨r, hr', rfl⟩)
    · have n1 := n.same s1
      have en_ : p.gn = nmsOf tb := n.gn
      rw [← en_] at kI
      obtain ⟨k1, k2⟩ := k H1 order wf s1 kI
      refine ⟨l, _, rfl, .inl (SqL.of hl1), _, rfl, A.a, CN, A.dx, _, _, rfl, n1.ob, T.cN, T.nG, nF_gates A, A.dg, _, rfl, n1.gates, _, _, rfl, rfl, _, rfl, ?_⟩
      rw [List.length_map, gatesK_len, hg]
      by_cases h : order.length < p.gn.length
      · exact if_t (decide_eq_true (by omega)) (k1 h H1)
      · exact if_f (decide_eq_false (by omega)) (k2 h)
/-! ### read_network -/
theorem upd_none {H : Hp} {p b : Addr} {o : HO} (h : (upd H p o) b = none) : b ≠ p ∧ H b = none := by
  have hb : b ≠ p := fun e => by rw [e, upd_same] at h; cases h
  rw [upd_ne hb] at h
  exact ⟨hb, h⟩
def spRead (K : PySem.W.Frag) (CF CN CG : Addr) : Sp := fun vs H Q E => ∃ (a : Addr) (ns : List Int), vs = [.ref a] ∧ SqL K H a (ns.map V.int) ∧ ns.length ≤ 65536 ∧ (∀ n ∈ ns, 0 ≤ n ∧ n ≤ 255) ∧
  (Sf33.network (ns.length : Int) (Sf33Neutral.bytesOf ns) = none → Raised CF E) ∧
  (∀ n, Sf33.network (ns.length : Int) (Sf33Neutral.bytesOf ns) = some n → ∀ (H' : Hp) (A : NAd) (tb : List GR), NOk CN CG H' A (encN n) tb → Same H H' → Q (.ref A.a) H')
theorem scRd : FnScope ["text", "network", "line", "words"] ["text"] (defScope sRead) := ⟨rfl, rfl, rfl, by decide +kernel, rfl, by decide +kernel, by decide +kernel⟩
theorem ok_read {f fS fL fM fU fO fI : Addr} {fd fdS fdL fdM fdU fdO fdI : FuncData} (F : Fun K "read_network" "read_network" sRead f fd) (T : Txt K mg CF CG CN)
    (MN : Mk K CN fI) (FI : Fun K "__init__" "Network.__init__" sNetInit fI fdI) (bI : Binds K fdI ["self"] [])
    (GS : FnOk P w K mg base CX0 1 fS fdS ["text"] (spSpell K)) (kS : PySem.W.keepIn K (.ref fS) = true) (bS : Binds K fdS ["text"] []) (mS : mg "spell" = some (.ref fS))
    (GL : FnOk P w K mg base (L2.CX P w) 4 fL fdL ["network", "words"] (spLine CF CN CG)) (kL : PySem.W.keepIn K (.ref fL) = true) (bL : Binds K fdL ["network", "words"] []) (mL : mg "read_line" = some (.ref fL))
    (GM : FnOk P w K mg base (L2.CX P w) 1 fM fdM ["network"] (spMany CF CN CG)) (kM : PySem.W.keepIn K (.ref fM) = true) (bM : Binds K fdM ["network"] []) (mM : mg "refuse_too_many" = some (.ref fM))
    (GU : FnOk P w K mg base (L2.CX P w) 2 fU fdU ["network"] (spUnknown CF CN CG)) (kU : PySem.W.keepIn K (.ref fU) = true) (bU : Binds K fdU ["network"] []) (mU : mg "refuse_unknown_names" = some (.ref fU))
    (GO : FnOk P w K mg base (L2.CX P w) 3 fO fdO ["network"] (spLoops CF CN CG)) (kO : PySem.W.keepIn K (.ref fO) = true) (bO : Binds K fdO ["network"] []) (mO : mg "refuse_loops" = some (.ref fO)) :
    FnOk P w K mg base (L2.CX P w) 5 f fd ["text"] (spRead K CF CN CG) := by
  have GI : FnOk P w K mg base CX0 1 fI fdI ["self"] (spNetInit CN) := ok_netInit FI T
  obtain ⟨t1, m1⟩ := T.mBytes
  refine F.okX scRd (fun vs H Q E h => ?_) (fun cdv A outer s H vs Q E hr h => ?_)
  · obtain ⟨a, ns, rfl, _⟩ := h
    rfl
  · obtain ⟨a, ns, rfl, ha, hn, hb, kN, kR⟩ := h
    have hr1 : Room 1 _ := hr.mono (by decide)
    have hr2 : Room 2 _ := hr.mono (by decide)
    have hr3 : Room 3 _ := hr.mono (by decide)
    refine ⟨_, pss_cons (ps_if (pt_cmpR op_gt (pe_callB call_len_seq (by rfl) T.len PySem.boot_len (pa_cons (pv 0) pa_nil)) (pe_glob rfl m1 (v := .int 65536) ⟨_, rfl⟩) (nomark _))
        (pss_one (ps_raise rfl (takes_of rfl rfl rfl rfl) (pmk_own0 PySem.F.excBase_ValueError T.xF T.gF T.kF (raises_own T.bF T.tF) rfl))) pss_nil)
      (pss_cons (ps_set (i := 1) scRd.nd rfl (.inl rfl) (pe_make0 MN GI hr2 rfl T.gN bI .nil pass0))
      (pss_cons (ps_for (passes_of rfl) rfl (pi_list (pe_split (pe_call GS hr1 rfl mS kS bS .nil pass0 (pa_cons (pv 0) pa_nil)) pe_str)) (pg_name (i := 2) scRd.nd rfl (.inl rfl))
        (pss_cons (ps_set (i := 3) scRd.nd rfl (.inl rfl) (pe_words (pe_ix ix_tup (pe_partition (pv 2) pe_str) pe_int (fun _ _ => rfl))))
        (pss_one (ps_if (pt_cmpR op_gt (pe_callB call_len_seq (by rfl) T.len PySem.boot_len (pa_cons (pv 3) pa_nil)) pe_int (nomark _))
          (pss_one (ps_expr (pe_callS GL hr rfl mL kL bL (fun σ => passAt (takes_of rfl rfl rfl rfl) σ) (pa_cons (pv 1) (pa_cons (pv 3) pa_nil))))) pss_nil))))
      (pss_cons (ps_expr (pe_callS GM hr1 rfl mM kM bM (fun σ => passAt (takes_of rfl rfl rfl rfl) σ) (pa_cons (pv 1) pa_nil)))
      (pss_cons (ps_expr (pe_callS GU hr2 rfl mU kU bU (fun σ => passAt (takes_of rfl rfl rfl rfl) σ) (pa_cons (pv 1) pa_nil)))
      (pss_cons (ps_expr (pe_callS GO hr3 rfl mO kO bO (fun σ => passAt (takes_of rfl rfl rfl rfl) σ) (pa_cons (pv 1) pa_nil)))
      (pss_one (ps_ret (pv 1)))))))), ?_⟩
    have hbl : (Sf33Neutral.bytesOf ns).length = ns.length := by simp [Sf33Neutral.bytesOf]
    have net := fun n => network_some (b := Sf33Neutral.bytesOf ns) (by rw [hbl]; exact hn) n
    rw [hbl] at net
    have pall := parse_all (Sf33Neutral.bytesOf ns)
    have wsum := wordsS_sum (Sf33Neutral.bytesOf ns)
    rw [hbl] at wsum
    have rl : ∀ l ∈ rows (Sf33Neutral.bytesOf ns), l.length ≤ 65536 := fun l h => by
      have := row_len h
      omega
    have wr := fun l (h : l ∈ rows (Sf33Neutral.bytesOf ns)) => words_row h
    have spl := split_en (Sf33Neutral.bytesOf ns)
    generalize hb0 : Sf33Neutral.bytesOf ns = b at *
    -- if len(text) > MOST_BYTES
    refine ⟨_, rfl, a, _, rfl, .inl ha, _, _, rfl, rfl, _, rfl, ?_⟩
    refine if_f (decide_eq_false (by rw [List.length_map]; omega)) ?_
    -- network = Network()
    intro x dx nx ndx ne
    refine ⟨x, dx, rfl, upd_same, fun H1 Ad ea edx f1 f2 f3 f4 ob oi ol og kp => ⟨rfl, ?_⟩⟩
    subst ea edx
    have s1 : Same H H1 := Same.made nx ndx kp
    have g1 : H Ad.di = none := (upd_none (upd_none f1).2).2
    have g2 : H Ad.dl = none := (upd_none (upd_none f2).2).2
    have g3 : H Ad.dg = none := (upd_none (upd_none f3).2).2
    have n1 : NOk CN CG H1 Ad ⟨[], [], []⟩ [] := ⟨ob, oi, ol, og, f4, rfl, (fun r h => by cases h), (fun r h => by cases h)⟩
    -- for line in spell(text).split("\n")
    refine ⟨_, rfl, a, ns, rfl, s1.seq ha, hn, hb, fun H2 s2 => ?_⟩
    rw [hb0]
    have hel : (en b).length + 2 ≤ sizeLine := by
      rw [en_len, hbl]
      exact Nat.le_trans (show ns.length + 2 ≤ 70000 by omega) (by decide)
    refine ⟨⟨_, rfl⟩, _, _, rfl, rfl, (by decide +kernel), hel, fun L hL => ?_⟩
    rw [spl]
    have n2 := n1.same s2
    have nL : L ≠ Ad.dl := Ne.symm (ne_of_none n2.outs hL)
    have none_of : ((wordsS b).foldlM pLine ⟨[], [], []⟩ = none) → Raised CF E := fun e => by
      refine kN ?_
      cases q : Sf33.network (ns.length : Int) b with
      | none => rfl
      | some m =>
        rw [pall, ((net m).mp q).1] at e
        cases e
    refine ⟨L, rfl, ⟨_, SqL.of upd_same⟩, for_list (K := K) (a := L) (xs := ((rows b).map en).map V.str)
      (fun i σ H' => ∃ v2 v3 p tb, σ = [some (.ref a), some (.ref Ad.a), v2, v3] ∧ ((wordsS b).take i).foldlM pLine ⟨[], [], []⟩ = some p ∧ NOk CN CG H' Ad p tb ∧ H' L = some (.lst (((rows b).map en).map V.str)) ∧ Same H H') ?_ ?_ ?_ ?_⟩
    · exact ⟨_, _, _, [], rfl, rfl, n2.same (Same.upd_own hL), upd_same, (s1.trans s2).trans (Same.upd_own hL)⟩
    · rintro i σ H3 _ ⟨_, _, _, _, rfl, _, _, hL3, _⟩
      exact SqL.of hL3
    · rintro i x σ H3 hi ⟨v2, v3, p, tb, rfl, ef, n3, hL3, s3⟩
      obtain ⟨z, hz, rfl⟩ := str_item hi
      obtain ⟨l, hl, rfl⟩ : ∃ l, (rows b)[i]? = some l ∧ z = en l := by
        rw [List.getElem?_map] at hz
        cases e : (rows b)[i]? with
        | none => rw [e] at hz; cases hz
        | some l => rw [e] at hz; exact ⟨l, rfl, (Option.some.inj hz).symm⟩
      have hlm : l ∈ rows b := List.mem_of_getElem? hl
      have hll := rl l hlm
      have hwi : (wordsS b)[i]? = some ((wordsOf l).map en) := by
        unfold wordsS
        rw [List.getElem?_map, hl]
        rfl
      obtain ⟨st1, st2⟩ := fold_step hwi ef
      have hsz : ∀ k : Nat, k ≤ 65536 → k + 2 ≤ sizeLine := fun k h => Nat.le_trans (show k + 2 ≤ 70000 by omega) (by decide)
      have epart := partition_en l
      have htk : (l.takeWhile fun c => c != 35).length ≤ l.length := (List.takeWhile_sublist _).length_le
      -- words = line.partition("#")[0].split()
      refine ⟨_, rfl, ⟨_, rfl⟩, _, _, rfl, rfl, (by decide +kernel), ?_, fun t ht => ?_⟩
      · rw [en_len]
        exact Nat.le_trans (Nat.le_add_right _ 2) (hsz _ hll)
      refine ⟨t, _, _, _, rfl, rfl, SqT.of upd_same, atI_nat (j := 0) rfl, ⟨_, rfl⟩, _, rfl, rfl, ?_, fun la hla => ?_⟩
      · rw [epart, en_len]
        exact hsz _ (by omega)
      rw [wr l hlm]
      have s4 := (Same.upd_own (o := .tup [.str (Txt.partition (en l) "#").1, .str (Txt.partition (en l) "#").2.1, .str (Txt.partition (en l) "#").2.2]) ht).trans (Same.upd_own (o := .lst (((wordsOf l).map en).map V.str)) hla)
      have hla' : (upd (upd H3 t (.tup [.str (Txt.partition (en l) "#").1, .str (Txt.partition (en l) "#").2.1, .str (Txt.partition (en l) "#").2.2])) la (.lst (((wordsOf l).map en).map V.str))) la = some (.lst (((wordsOf l).map en).map V.str)) := upd_same
      generalize (upd (upd H3 t (.tup [.str (Txt.partition (en l) "#").1, .str (Txt.partition (en l) "#").2.1, .str (Txt.partition (en l) "#").2.2])) la (.lst (((wordsOf l).map en).map V.str))) = H4 at s4 hla' ⊢
      have n4 := n3.same s4
      -- if len(words) > 0
      refine ⟨_, rfl, la, _, rfl, .inl (SqL.of hla'), _, _, rfl, rfl, _, rfl, ?_⟩
      by_cases h0 : (wordsOf l).map en = []
      · refine if_f (decide_eq_false (by rw [h0]; decide)) ?_
        rw [h0] at st1
        exact ⟨_, _, p, tb, rfl, st1, n4, s4 _ _ hL3, s3.trans s4⟩
      · have hpos : 0 < ((wordsOf l).map en).length := List.length_pos_iff.mpr h0
        refine if_t (decide_eq_true (by rw [List.length_map]; omega)) ?_
        have hszp : p.sz + ((wordsOf l).map en).length ≤ 200000 := by
          have h1 := parse_sz ef
          have h2 : (((wordsS b).take i).map List.length).sum ≤ ((wordsS b).map List.length).sum := by
            rw [List.map_take]
            exact sum_take_le _ _
          have h3 : (PN.mk [] [] []).sz = 0 := rfl
          have h4 := words_count l
          rw [List.length_map]
          omega
        refine ⟨_, rfl, _, rfl, Ad, p, tb, la, (wordsOf l).map en, rfl, n4, hla', h0, ?_, hszp, fun e => none_of (st2 e), fun p' e H5 tb' n5 k5 => ?_⟩
        · intro z hz'
          obtain ⟨wd, hwd, rfl⟩ := List.mem_map.mp hz'
          have := word_len hwd
          rw [en_len]
          omega
        · refine ⟨_, _, p', tb', rfl, st1.trans e, n5, k5 _ _ (s4 _ _ hL3) ?_ nL ?_, fun bb o e' => k5 _ _ (s4 _ _ (s3 bb o e')) (ne_of_none e' g1) (ne_of_none e' g2) (ne_of_none e' g3)⟩
          · exact ne_of hL3 n3.ins (by intro z; cases z)
          · exact ne_of hL3 n3.gates (by intro z; cases z)
    · rintro σ H3 ⟨v2, v3, p, tb, rfl, ef, n3, hL3, s3⟩
      have el : ((rows b).map en).length = (wordsS b).length := by simp [wordsS]
      rw [List.length_map, el, List.take_length] at ef
      have few : PFew p := parse_few (fun g hg => by cases hg) ef
      rw [pall] at ef
      obtain ⟨n, hraw, rfl⟩ := Option.map_eq_some_iff.mp ef
      have fine := raw_fine fine0 hraw
      have no : ¬ (Small n ∧ Known n ∧ Rank n) → Raised CF E := fun h => by
        refine kN ?_
        cases q : Sf33.network (ns.length : Int) b with
        | none => rfl
        | some m =>
          obtain ⟨e1, e2⟩ := (net m).mp q
          rw [hraw] at e1
          cases e1
          exact absurd e2 h
      -- refuse_too_many(network)
      refine ⟨_, rfl, Ad, _, tb, rfl, n3, fun h => no fun z => h ((small_enc n).mpr z.1), fun hsm => ?_⟩
      -- refuse_unknown_names(network)
      refine ⟨_, rfl, Ad, _, tb, rfl, n3, fun h => no fun z => h ((known_enc fine).mpr z.2.1), fun hkn H4 s4 => ?_⟩
      have n4 := n3.same s4
      have hgl : (encN n).gates.length ≤ 1024 := by
        have := hsm.2.2
        omega
      -- refuse_loops(network)
      refine ⟨_, rfl, Ad, _, tb, rfl, n4, gn_nodup fine, hgl, few, fun H5 order wf s5 kI => ⟨fun h => ?_, fun h => ?_⟩⟩
      · exact no fun z => (order_iff fine kI).mpr z.2.2 h
      · refine ⟨_, rfl, kR n ((net n).mpr ⟨hraw, (small_enc n).mp hsm, (known_enc fine).mp hkn, (order_iff fine kI).mp h⟩) H5 Ad tb (n4.same s5) ((s3.trans s4).trans s5)⟩
end
end GN
namespace GN
open PySem PySem.Spec PyProof.Rows L2
section
variable {P : Program} {w : World} {K : PySem.W.Frag} {mg : Str → Option Value} {base : Heap} {CF CG CN dk rg : Addr}
/-! ### check -/
def spCheck (K : PySem.W.Frag) : Sp := fun vs H Q _ => ∃ (a : Addr) (ns : List Int), vs = [.ref a] ∧ SqL K H a (ns.map V.int) ∧ ns.length ≤ 65536 ∧ (∀ n ∈ ns, 0 ≤ n ∧ n ≤ 255) ∧
  ∀ (H' : Hp) (p : Addr), H' p = some (.lst ((PySf33.check ns).map V.int)) → Q (.ref p) H'
theorem check_eq (ns : List Int) : PySf33.check ns = [if (Sf33.network (ns.length : Int) (Sf33Neutral.bytesOf ns)).isSome = true then 0 else -1] := rfl
theorem scCk : FnScope ["text"] ["text"] (defScope sCheck) := ⟨rfl, rfl, rfl, by decide +kernel, rfl, by decide +kernel, by decide +kernel⟩
theorem ok_check {f fR : Addr} {fd fdR : FuncData} (F : Fun K "check" "check" sCheck f fd) (T : Txt K mg CF CG CN)
    (GR_ : FnOk P w K mg base (L2.CX P w) 5 fR fdR ["text"] (spRead K CF CN CG)) (kR : PySem.W.keepIn K (.ref fR) = true) (bR : Binds K fdR ["text"] []) (mR : mg "read_network" = some (.ref fR)) :
    FnOk P w K mg base CX0 6 f fd ["text"] (spCheck K) := by
  refine F.ok scCk (fun vs H Q E h => ?_) (fun cdv A outer s H vs Q E hr h => ?_)
  · obtain ⟨a, ns, rfl, _⟩ := h
    rfl
  · obtain ⟨a, ns, rfl, ha, hn, hb, q⟩ := h
    refine ⟨_, pss_cons (ps_try_only (tb := fun W => tDrop (tCallS (spRead K CF CN CG) (WE W) (tCons (tVar 0) tNil))) (ts := fun _ _ _ => tRet (tLst (tCons (tUn (rU fun i => .int (-i)) (tC (.int 1))) tNil))) (Wout := fun _ _ _ _ => False) rfl rfl ⟨rfl, by decide, Or.inl T.gF⟩ takes0
        (fun W pn xe tk _ => pss_one (ps_expr (pe_callS GR_ hr rfl mR kR bR (fun σ => passAt tk σ) (by exact (pa_cons (pv 0) pa_nil)))))
        (fun _ _ _ _ _ _ _ => pss_one (ps_ret (pe_lst (pa_cons (pe_un un_neg pe_int) pa_nil)))))
      (pss_one (ps_ret (pe_lst (pa_cons pe_int pa_nil)))), ?_⟩
    refine ⟨_, rfl, a, ns, rfl, ha, hn, hb, fun e H1 => ?_, fun n e H1 Ad tb n1 s1 => ?_⟩
    · refine ⟨true, T.eF, fun _ a0 _ => ?_, fun z => Bool.noConfusion z⟩
      refine ⟨_, rfl, (by show 1 ≤ sizeLine; decide), fun p hp => q _ p ?_⟩
      rw [upd_same, check_eq, e]
      rfl
    · refine ⟨(by show 1 ≤ sizeLine; decide), fun p hp => q _ p ?_⟩
      rw [upd_same, check_eq, e]
      rfl
end
end GN
namespace GN
open PySem PySem.Spec PyProof.Rows L2
/-! ### the dicts of the top -/
def kindTbl : List (Str × Nat) := [(kZero, 0), (kOne, 0), (kNot, 1), (kBuf, 1), (kReg, 1), (kReg1, 1), (kAnd, 2), (kOr, 2), (kXor, 2), (kNand, 2), (kNor, 2), (kXnor, 2), (kMaj, 3), (kMux, 3)]
def regTbl : List (Str × Nat) := [(kReg, 0), (kReg1, 1)]
theorem look_cons {α : Type} (z a : Str) (b : α) (r : List (Str × α)) : List.lookup z ((a, b) :: r) = if z = a then some b else List.lookup z r := by
  by_cases h : z = a
  · subst h
    rw [if_pos rfl]
    simp [List.lookup]
  · have e : (z == a) = false := by simpa using h
    rw [if_neg h]
    simp only [List.lookup, e]
theorem kc_tbl (z : Str) : kc z = kindTbl.lookup z := by
  unfold kc kindTbl
  simp only [look_cons, List.lookup_nil]
theorem rc_tbl (z : Str) : rc z = regTbl.lookup z := by
  unfold rc regTbl
  simp only [look_cons, List.lookup_nil]
def Shape : List DictEntry → List (Str × Nat) → Prop
  | [], [] => True
  | e :: es, q :: qs => (∃ t, e.key = .str q.1 t) ∧ (∃ t, e.val = .int (q.2 : Nat) t) ∧ Shape es qs
  | _, _ => False
theorem shape_find (z : Str) : ∀ (es : List DictEntry) (qs : List (Str × Nat)), Shape es qs → (match qs.lookup z with
    | some c => ∃ e t, es.find? (·.key.isStr z) = some e ∧ e.val = .int (c : Nat) t
    | none => es.find? (·.key.isStr z) = none) ∧ es.any (·.refKey) = false
  | [], [], _ => ⟨rfl, rfl⟩
  | [], _ :: _, h => by cases h
  | _ :: _, [], h => by cases h
  | e :: es, q :: qs, h => by
    obtain ⟨⟨t, hk⟩, ⟨u, hv⟩, h⟩ := h
    obtain ⟨ih1, ih2⟩ := shape_find z es qs h
    have er : e.refKey = false := by unfold DictEntry.refKey; rw [hk]
    have ei : e.key.isStr z = (q.1 == z) := by rw [hk]; rfl
    refine ⟨?_, by rw [List.any_cons, er, ih2]; rfl⟩
    obtain ⟨a, b⟩ := q
    rw [look_cons]
    by_cases hz : z = a
    · rw [if_pos hz]
      refine ⟨e, u, ?_, hv⟩
      rw [List.find?_cons, ei]
      subst hz
      simp
    · rw [if_neg hz]
      have en0 : (a == z) = false := by simpa using fun w => hz w.symm
      have ef : (e :: es).find? (·.key.isStr z) = es.find? (·.key.isStr z) := by rw [List.find?_cons, ei]; show (match (a == z) with | true => some e | false => _) = _; rw [en0]
      rw [ef]
      exact ih1
theorem ns_of {K : PySem.W.Frag} {d : Addr} {es : Array DictEntry} {n : Nat} {tbl : List (Str × Nat)} (l : K.lookup d = some ⟨.type "dict", none, .dict es n, #[]⟩) (h : Shape es.toList tbl) (z : Str) :
    ∃ r, PySem.W.nsIn K d z = some r ∧ (match tbl.lookup z with | some c => ∃ t, r = some (.int (c : Nat) t) | none => r = none) := by
  obtain ⟨h1, h2⟩ := shape_find z es.toList tbl h
  unfold PySem.W.nsIn
  rw [l]
  dsimp only
  cases hk : tbl.lookup z with
  | none =>
    rw [hk] at h1
    have h1' : es.toList.find? (·.key.isStr z) = none := h1
    rw [h1', h2]
    exact ⟨none, rfl, rfl⟩
  | some c =>
    rw [hk] at h1
    obtain ⟨e, t, e1, e2⟩ := h1
    rw [e1]
    exact ⟨some e.val, rfl, t, by rw [e2]⟩
/-- an error of a class is caught by that class -/
theorem caught {K : PySem.W.Frag} {S : Addr} (h1 : PySem.W.subIn K (.ref S) (.type "BaseException") = some true) (h2 : PySem.W.isClsIn K S = true) (h3 : PySem.W.typeIn K (.ref S) = some (.type "type")) (h4 : PySem.W.subIn K (.ref S) (.ref S) = some true) :
    PySem.W.exmOne K (.ref S) (.ref S) = some true := by
  unfold PySem.W.isClsIn at h2
  unfold PySem.W.exmOne PySem.W.kitCls
  simp only [h1, h2, h3, h4, BEq.rfl, Bool.and_self, if_true]
end GN
namespace GN
open PySem PySem.Spec PyProof.Rows L2
theorem all_mk {P : Program} {w : World} {K : PySem.W.Frag} {h : Heap} {mg : Str → Option Value} {fa CF CG CN dk rg f1 f2 f3 f4 f5 f6 f7 f8 f9 f10 f11 f12 f13 f14 f15 f16 f17 : Addr} (X : K.In h) (G : h.Ns mainGlobals mg) (hfa : mg "check" = some (.ref fa))
    {od1 an1 od2 an2 od3 an3 od4 an4 od5 an5 od6 an6 od7 an7 od8 an8 od9 an9 od10 an10 od11 an11 od12 an12 od13 an13 od14 an14 od15 an15 od16 an16 od17 an17 : Option Addr} {sl1 sl2 sl3 sl4 sl5 sl6 sl7 sl8 sl9 sl10 sl11 sl12 sl13 sl14 sl15 sl16 sl17 : Array (Option Value)} {oc1 kV1 dc1 pm1 cd1 ct1 oc2 kV2 dc2 pm2 cd2 ct2 oc3 kV3 dc3 pm3 cd3 ct3 oc4 kV4 dc4 pm4 cd4 ct4 oc5 kV5 dc5 pm5 cd5 ct5 oc6 kV6 dc6 pm6 cd6 ct6 oc7 kV7 dc7 pm7 cd7 ct7 oc8 kV8 dc8 pm8 cd8 ct8 oc9 kV9 dc9 pm9 cd9 ct9 oc10 kV10 dc10 pm10 cd10 ct10 oc11 kV11 dc11 pm11 cd11 ct11 oc12 kV12 dc12 pm12 cd12 ct12 oc13 kV13 dc13 pm13 cd13 ct13 oc14 kV14 dc14 pm14 cd14 ct14 oc15 kV15 dc15 pm15 cd15 ct15 oc16 kV16 dc16 pm16 cd16 ct16 oc17 kV17 dc17 pm17 cd17 ct17 : Value}
    {esD esR : Array DictEntry} {nD nR : Nat} {k1 k2 k3 k4 k5 k6 k7 k8 k9 : Tok}
    (aF : PySem.W.nsIn K mainGlobals "NoNetwork" = some (some (.ref CF)))
    (aG : PySem.W.nsIn K mainGlobals "Gate" = some (some (.ref CG)))
    (aN : PySem.W.nsIn K mainGlobals "Network" = some (some (.ref CN)))
    (a1 : PySem.W.nsIn K mainGlobals "check" = some (some (.ref f1)))
    (l1 : K.lookup f1 = some ⟨oc1, od1, .func (PySem.W.fnOf "check" "check" (defArgs sCheck) (defBody sCheck) (defScope sCheck) .none kV1 dc1 pm1 an1 cd1 ct1), sl1⟩)
    (c1 : PySem.W.codeIn K cd1 "check" = true)
    (q1 : PySem.W.keepIn K (.ref f1) = true)
    (a2 : PySem.W.nsIn K mainGlobals "read_network" = some (some (.ref f2)))
    (l2 : K.lookup f2 = some ⟨oc2, od2, .func (PySem.W.fnOf "read_network" "read_network" (defArgs sRead) (defBody sRead) (defScope sRead) .none kV2 dc2 pm2 an2 cd2 ct2), sl2⟩)
    (c2 : PySem.W.codeIn K cd2 "read_network" = true)
    (q2 : PySem.W.keepIn K (.ref f2) = true)
    (a3 : PySem.W.nsIn K mainGlobals "spell" = some (some (.ref f3)))
    (l3 : K.lookup f3 = some ⟨oc3, od3, .func (PySem.W.fnOf "spell" "spell" (defArgs sSpell) (defBody sSpell) (defScope sSpell) .none kV3 dc3 pm3 an3 cd3 ct3), sl3⟩)
    (c3 : PySem.W.codeIn K cd3 "spell" = true)
    (q3 : PySem.W.keepIn K (.ref f3) = true)
    (a4 : PySem.W.nsIn K mainGlobals "read_line" = some (some (.ref f4)))
    (l4 : K.lookup f4 = some ⟨oc4, od4, .func (PySem.W.fnOf "read_line" "read_line" (defArgs sLine) (defBody sLine) (defScope sLine) .none kV4 dc4 pm4 an4 cd4 ct4), sl4⟩)
    (c4 : PySem.W.codeIn K cd4 "read_line" = true)
    (q4 : PySem.W.keepIn K (.ref f4) = true)
    (a5 : PySem.W.nsIn K mainGlobals "add_inputs" = some (some (.ref f5)))
    (l5 : K.lookup f5 = some ⟨oc5, od5, .func (PySem.W.fnOf "add_inputs" "add_inputs" (defArgs sAddIn) (defBody sAddIn) (defScope sAddIn) .none kV5 dc5 pm5 an5 cd5 ct5), sl5⟩)
    (c5 : PySem.W.codeIn K cd5 "add_inputs" = true)
    (q5 : PySem.W.keepIn K (.ref f5) = true)
    (a6 : PySem.W.nsIn K mainGlobals "add_outputs" = some (some (.ref f6)))
    (l6 : K.lookup f6 = some ⟨oc6, od6, .func (PySem.W.fnOf "add_outputs" "add_outputs" (defArgs sAddOut) (defBody sAddOut) (defScope sAddOut) .none kV6 dc6 pm6 an6 cd6 ct6), sl6⟩)
    (c6 : PySem.W.codeIn K cd6 "add_outputs" = true)
    (q6 : PySem.W.keepIn K (.ref f6) = true)
    (a7 : PySem.W.nsIn K mainGlobals "add_gate" = some (some (.ref f7)))
    (l7 : K.lookup f7 = some ⟨oc7, od7, .func (PySem.W.fnOf "add_gate" "add_gate" (defArgs sAddGate) (defBody sAddGate) (defScope sAddGate) .none kV7 dc7 pm7 an7 cd7 ct7), sl7⟩)
    (c7 : PySem.W.codeIn K cd7 "add_gate" = true)
    (q7 : PySem.W.keepIn K (.ref f7) = true)
    (a8 : PySem.W.nsIn K mainGlobals "is_name" = some (some (.ref f8)))
    (l8 : K.lookup f8 = some ⟨oc8, od8, .func (PySem.W.fnOf "is_name" "is_name" (defArgs sIsName) (defBody sIsName) (defScope sIsName) .none kV8 dc8 pm8 an8 cd8 ct8), sl8⟩)
    (c8 : PySem.W.codeIn K cd8 "is_name" = true)
    (q8 : PySem.W.keepIn K (.ref f8) = true)
    (a9 : PySem.W.nsIn K mainGlobals "is_given" = some (some (.ref f9)))
    (l9 : K.lookup f9 = some ⟨oc9, od9, .func (PySem.W.fnOf "is_given" "is_given" (defArgs sIsGiven) (defBody sIsGiven) (defScope sIsGiven) .none kV9 dc9 pm9 an9 cd9 ct9), sl9⟩)
    (c9 : PySem.W.codeIn K cd9 "is_given" = true)
    (q9 : PySem.W.keepIn K (.ref f9) = true)
    (a10 : PySem.W.nsIn K mainGlobals "refuse_as_new" = some (some (.ref f10)))
    (l10 : K.lookup f10 = some ⟨oc10, od10, .func (PySem.W.fnOf "refuse_as_new" "refuse_as_new" (defArgs sNew) (defBody sNew) (defScope sNew) .none kV10 dc10 pm10 an10 cd10 ct10), sl10⟩)
    (c10 : PySem.W.codeIn K cd10 "refuse_as_new" = true)
    (q10 : PySem.W.keepIn K (.ref f10) = true)
    (a11 : PySem.W.nsIn K mainGlobals "refuse_too_many" = some (some (.ref f11)))
    (l11 : K.lookup f11 = some ⟨oc11, od11, .func (PySem.W.fnOf "refuse_too_many" "refuse_too_many" (defArgs sMany) (defBody sMany) (defScope sMany) .none kV11 dc11 pm11 an11 cd11 ct11), sl11⟩)
    (c11 : PySem.W.codeIn K cd11 "refuse_too_many" = true)
    (q11 : PySem.W.keepIn K (.ref f11) = true)
    (a12 : PySem.W.nsIn K mainGlobals "refuse_unknown_names" = some (some (.ref f12)))
    (l12 : K.lookup f12 = some ⟨oc12, od12, .func (PySem.W.fnOf "refuse_unknown_names" "refuse_unknown_names" (defArgs sUnknown) (defBody sUnknown) (defScope sUnknown) .none kV12 dc12 pm12 an12 cd12 ct12), sl12⟩)
    (c12 : PySem.W.codeIn K cd12 "refuse_unknown_names" = true)
    (q12 : PySem.W.keepIn K (.ref f12) = true)
    (a13 : PySem.W.nsIn K mainGlobals "refuse_loops" = some (some (.ref f13)))
    (l13 : K.lookup f13 = some ⟨oc13, od13, .func (PySem.W.fnOf "refuse_loops" "refuse_loops" (defArgs sLoops) (defBody sLoops) (defScope sLoops) .none kV13 dc13 pm13 an13 cd13 ct13), sl13⟩)
    (c13 : PySem.W.codeIn K cd13 "refuse_loops" = true)
    (q13 : PySem.W.keepIn K (.ref f13) = true)
    (a14 : PySem.W.nsIn K mainGlobals "sources_at_once" = some (some (.ref f14)))
    (l14 : K.lookup f14 = some ⟨oc14, od14, .func (PySem.W.fnOf "sources_at_once" "sources_at_once" (defArgs sAtOnce) (defBody sAtOnce) (defScope sAtOnce) .none kV14 dc14 pm14 an14 cd14 ct14), sl14⟩)
    (c14 : PySem.W.codeIn K cd14 "sources_at_once" = true)
    (q14 : PySem.W.keepIn K (.ref f14) = true)
    (a15 : PySem.W.nsIn K mainGlobals "order_gates" = some (some (.ref f15)))
    (l15 : K.lookup f15 = some ⟨oc15, od15, .func (PySem.W.fnOf "order_gates" "order_gates" (defArgs sOrder) (defBody sOrder) (defScope sOrder) .none kV15 dc15 pm15 an15 cd15 ct15), sl15⟩)
    (c15 : PySem.W.codeIn K cd15 "order_gates" = true)
    (q15 : PySem.W.keepIn K (.ref f15) = true)
    (a16 : PySem.W.findIn K (.ref CG) "__init__" = some (some (.ref f16)))
    (i16 : PySem.W.isFn K (.ref f16) = true)
    (l16 : K.lookup f16 = some ⟨oc16, od16, .func (PySem.W.fnOf "__init__" "Gate.__init__" (defArgs sGateInit) (defBody sGateInit) (defScope sGateInit) .none kV16 dc16 pm16 an16 cd16 ct16), sl16⟩)
    (c16 : PySem.W.codeIn K cd16 "Gate.__init__" = true)
    (q16 : PySem.W.keepIn K (.ref f16) = true)
    (a17 : PySem.W.findIn K (.ref CN) "__init__" = some (some (.ref f17)))
    (i17 : PySem.W.isFn K (.ref f17) = true)
    (l17 : K.lookup f17 = some ⟨oc17, od17, .func (PySem.W.fnOf "__init__" "Network.__init__" (defArgs sNetInit) (defBody sNetInit) (defScope sNetInit) .none kV17 dc17 pm17 an17 cd17 ct17), sl17⟩)
    (c17 : PySem.W.codeIn K cd17 "Network.__init__" = true)
    (q17 : PySem.W.keepIn K (.ref f17) = true)
    (pgG : PySem.W.plainGet K CG Str.empty = true)
    (hdG : PySem.W.hasDictIn K CG = true)
    (poG : PySem.W.plainOver K CG = true)
    (saG : PySem.W.findIn K (.ref CG) "__setattr__" = some (some (.builtin "object.__setattr__")))
    (mkG : PySem.W.makesIn K CG = true)
    (kcG : PySem.W.keepIn K (.ref CG) = true)
    (pgN : PySem.W.plainGet K CN Str.empty = true)
    (hdN : PySem.W.hasDictIn K CN = true)
    (poN : PySem.W.plainOver K CN = true)
    (saN : PySem.W.findIn K (.ref CN) "__setattr__" = some (some (.builtin "object.__setattr__")))
    (mkN : PySem.W.makesIn K CN = true)
    (kcN : PySem.W.keepIn K (.ref CN) = true)
    (nK : PySem.W.findIn K (.ref CG) "kind" = some none)
    (nS : PySem.W.findIn K (.ref CG) "sources" = some none)
    (nI : PySem.W.findIn K (.ref CN) "inputs" = some none)
    (nO : PySem.W.findIn K (.ref CN) "outputs" = some none)
    (nG : PySem.W.findIn K (.ref CN) "gates" = some none)
    (xF : PySem.W.excIn K CF [.type "ValueError", .type "Exception", .type "BaseException", .type "object"] "ValueError.__new__" = true)
    (kF : PySem.W.keepIn K (.ref CF) = true)
    (bF : PySem.W.subIn K (.ref CF) (.type "BaseException") = some true)
    (tF : PySem.W.typeIn K (.ref CF) = some (.type "type"))
    (iF : PySem.W.isClsIn K CF = true)
    (sF : PySem.W.subIn K (.ref CF) (.ref CF) = some true)
    (zl : PySem.W.nsIn K mainGlobals "len" = some none)
    (zo : PySem.W.nsIn K mainGlobals "ord" = some none)
    (za : PySem.W.nsIn K mainGlobals "all" = some none)
    (v1 : PySem.W.nsIn K mainGlobals "MOST_BYTES" = some (some (.int 65536 k1)))
    (v2 : PySem.W.nsIn K mainGlobals "MOST_NAMES" = some (some (.int 1024 k2)))
    (v3 : PySem.W.nsIn K mainGlobals "MOST_INPUTS" = some (some (.int 64 k3)))
    (v4 : PySem.W.nsIn K mainGlobals "MOST_OUTPUTS" = some (some (.int 64 k4)))
    (v5 : PySem.W.nsIn K mainGlobals "LONGEST_NAME" = some (some (.int 15 k5)))
    (v6 : PySem.W.nsIn K mainGlobals "LETTERS" = some (some (.str "abcdefghijklmnopqrstuvwxyz" k6)))
    (v7 : PySem.W.nsIn K mainGlobals "NAME_SIGNS" = some (some (.str "abcdefghijklmnopqrstuvwxyz0123456789_" k7)))
    (v8 : PySem.W.nsIn K mainGlobals "KNOWN_SIGNS" = some (some (.str "\n\t #=abcdefghijklmnopqrstuvwxyz0123456789_" k8)))
    (v9 : PySem.W.nsIn K mainGlobals "STRANGE_SIGN" = some (some (.str "?" k9)))
    (aD : PySem.W.nsIn K mainGlobals "SOURCES_OF_KIND" = some (some (.ref dk)))
    (lD : K.lookup dk = some ⟨.type "dict", none, .dict esD nD, #[]⟩)
    (yD : PySem.W.KeysLit w.params esD.toList)
    (oD : (dk == sysModules) = false)
    (hD : Shape esD.toList kindTbl)
    (aR : PySem.W.nsIn K mainGlobals "FIRST_BIT_OF_REGISTER" = some (some (.ref rg)))
    (lR : K.lookup rg = some ⟨.type "dict", none, .dict esR nR, #[]⟩)
    (yR : PySem.W.KeysLit w.params esR.toList)
    (oR : (rg == sysModules) = false)
    (hR : Shape esR.toList regTbl) :
    ∃ fd : FuncData, (∀ (s : Shared) (us : List Value), us.length = (["text"] : List Str).length → BindsTo s fd ⟨us, []⟩ ((["text"] : List Str).zip us)) ∧ ∀ base : Heap, K.In base → base.Ns mainGlobals mg → FnOk P w K mg base CX0 6 fa fd ["text"] (spCheck K) := by
  have e := hfa.symm.trans (PySem.W.mg_of X G a1)
  cases e
  have T : Txt K mg CF CG CN := ⟨⟨pgG, hdG, poG, saG⟩, ⟨pgN, hdN, poN, saN⟩, nK, nS, nI, nO, nG, PySem.W.mg_of X G aF, PySem.W.mg_of X G aG, PySem.W.mg_of X G aN, xF, kF, bF, tF, caught bF iF tF sF,
    PySem.W.mg_none_of X G zl, PySem.W.mg_none_of X G zo, PySem.W.mg_none_of X G za, ⟨_, PySem.W.mg_of X G v1⟩, ⟨_, PySem.W.mg_of X G v2⟩, ⟨_, PySem.W.mg_of X G v3⟩, ⟨_, PySem.W.mg_of X G v4⟩, ⟨_, PySem.W.mg_of X G v5⟩,
    ⟨_, PySem.W.mg_of X G v6⟩, ⟨_, PySem.W.mg_of X G v7⟩, ⟨_, PySem.W.mg_of X G v8⟩, ⟨_, PySem.W.mg_of X G v9⟩⟩
  have T2 : Txt2 K mg w dk rg := ⟨PySem.W.mg_of X G aD, ⟨esD, nD, ⟨lD, yD, oD⟩⟩, fun z => by rw [kc_tbl]; exact ns_of lD hD z, PySem.W.mg_of X G aR, ⟨esR, nR, ⟨lR, yR, oR⟩⟩, fun z => by rw [rc_tbl]; exact ns_of lR hR z⟩
  have F1 := fun_mk (st := sCheck) l1 c1 q1
  have b1 := F1.binds (ps := ["text"]) fun _ _ _ _ _ _ us hl => match us, hl with | [_], _ => rfl
  have F2 := fun_mk (st := sRead) l2 c2 q2
  have b2 := F2.binds (ps := ["text"]) fun _ _ _ _ _ _ us hl => match us, hl with | [_], _ => rfl
  have F3 := fun_mk (st := sSpell) l3 c3 q3
  have b3 := F3.binds (ps := ["text"]) fun _ _ _ _ _ _ us hl => match us, hl with | [_], _ => rfl
  have F4 := fun_mk (st := sLine) l4 c4 q4
  have b4 := F4.binds (ps := ["network", "words"]) fun _ _ _ _ _ _ us hl => match us, hl with | [_, _], _ => rfl
  have F5 := fun_mk (st := sAddIn) l5 c5 q5
  have b5 := F5.binds (ps := ["network", "names"]) fun _ _ _ _ _ _ us hl => match us, hl with | [_, _], _ => rfl
  have F6 := fun_mk (st := sAddOut) l6 c6 q6
  have b6 := F6.binds (ps := ["network", "names"]) fun _ _ _ _ _ _ us hl => match us, hl with | [_, _], _ => rfl
  have F7 := fun_mk (st := sAddGate) l7 c7 q7
  have b7 := F7.binds (ps := ["network", "words"]) fun _ _ _ _ _ _ us hl => match us, hl with | [_, _], _ => rfl
  have F8 := fun_mk (st := sIsName) l8 c8 q8
  have b8 := F8.binds (ps := ["word"]) fun _ _ _ _ _ _ us hl => match us, hl with | [_], _ => rfl
  have F9 := fun_mk (st := sIsGiven) l9 c9 q9
  have b9 := F9.binds (ps := ["network", "name"]) fun _ _ _ _ _ _ us hl => match us, hl with | [_, _], _ => rfl
  have F10 := fun_mk (st := sNew) l10 c10 q10
  have b10 := F10.binds (ps := ["network", "word"]) fun _ _ _ _ _ _ us hl => match us, hl with | [_, _], _ => rfl
  have F11 := fun_mk (st := sMany) l11 c11 q11
  have b11 := F11.binds (ps := ["network"]) fun _ _ _ _ _ _ us hl => match us, hl with | [_], _ => rfl
  have F12 := fun_mk (st := sUnknown) l12 c12 q12
  have b12 := F12.binds (ps := ["network"]) fun _ _ _ _ _ _ us hl => match us, hl with | [_], _ => rfl
  have F13 := fun_mk (st := sLoops) l13 c13 q13
  have b13 := F13.binds (ps := ["network"]) fun _ _ _ _ _ _ us hl => match us, hl with | [_], _ => rfl
  have F14 := fun_mk (st := sAtOnce) l14 c14 q14
  have b14 := F14.binds (ps := ["gate"]) fun _ _ _ _ _ _ us hl => match us, hl with | [_], _ => rfl
  have F15 := fun_mk (st := sOrder) l15 c15 q15
  have b15 := F15.binds (ps := ["gates"]) fun _ _ _ _ _ _ us hl => match us, hl with | [_], _ => rfl
  have F16 := fun_mk (st := sGateInit) l16 c16 q16
  have b16 := F16.binds (ps := ["self", "kind", "sources"]) fun _ _ _ _ _ _ us hl => match us, hl with | [_, _, _], _ => rfl
  have F17 := fun_mk (st := sNetInit) l17 c17 q17
  have b17 := F17.binds (ps := ["self"]) fun _ _ _ _ _ _ us hl => match us, hl with | [_], _ => rfl
  have m := fun {n : Str} {v : Value} (e : PySem.W.nsIn K mainGlobals n = some (some v)) => PySem.W.mg_of X G e
  refine ⟨PySem.W.fnOf "check" "check" (defArgs sCheck) (defBody sCheck) (defScope sCheck) .none kV1 dc1 pm1 an1 cd1 ct1, fun s us hu => match us, hu with | [_], _ => .of_eq rfl, fun base _ _ => ?_⟩
  have GNew : FnOk P w K mg base (L2.CX P w) 2 f10 _ ["network", "word"] (spNew CF CN CG) := ok_new F10 T F8 b8 (m a8) F9 b9 (m a9)
  have GIn : FnOk P w K mg base (L2.CX P w) 3 f5 _ ["network", "names"] (spAddIn CF CN CG) := ok_addIn F5 T GNew F10.kp b10 (m a10)
  have GOut : FnOk P w K mg base (L2.CX P w) 1 f6 _ ["network", "names"] (spAddOut CF CN CG) := ok_addOut F6 T
  have GGate : FnOk P w K mg base (L2.CX P w) 3 f7 _ ["network", "words"] (spAddGate CF CN CG) := ok_addGate F7 T T2 GNew F10.kp b10 (m a10) ⟨mkG, a16, i16, kcG⟩ F16 b16
  have GLine : FnOk P w K mg base (L2.CX P w) 4 f4 _ ["network", "words"] (spLine CF CN CG) := ok_line F4 GIn F5.kp b5 (m a5) GOut F6.kp b6 (m a6) GGate F7.kp b7 (m a7)
  have GSpell : FnOk P w K mg base CX0 1 f3 _ ["text"] (spSpell K) := ok_spell F3 T
  have GMany : FnOk P w K mg base (L2.CX P w) 1 f11 _ ["network"] (spMany CF CN CG) := ok_many F11 T
  have GUnk : FnOk P w K mg base (L2.CX P w) 2 f12 _ ["network"] (spUnknown CF CN CG) := ok_unknown F12 T F9 b9 (m a9)
  have GOrd : FnOk P w K mg base CX0 2 f15 _ ["gates"] (spOrder CG) := ok_order F15 T T2 F14 b14 (m a14)
  have GLoop : FnOk P w K mg base (L2.CX P w) 3 f13 _ ["network"] (spLoops CF CN CG) := ok_loops F13 T GOrd F15.kp b15 (m a15)
  have GRead : FnOk P w K mg base (L2.CX P w) 5 f2 _ ["text"] (spRead K CF CN CG) := ok_read F2 T ⟨mkN, a17, i17, kcN⟩ F17 b17 GSpell F3.kp b3 (m a3) GLine F4.kp b4 (m a4) GMany F11.kp b11 (m a11) GUnk F12.kp b12 (m a12) GLoop F13.kp b13 (m a13)
  exact ok_check F1 T GRead F2.kp b2 (m a2)
end GN
open PySem PySem.W PyProof.Rows
set_option maxRecDepth 100000 in
set_option maxHeartbeats 8000000 in
theorem PySem.Challenge.cw_gatenets_s01_check_holds : PySem.Challenge.rw_gatenets_s01_check.Holds := by
  w_on; k_headS; (case hw => exact ⟨[.list []], by decide +kernel, by decide +kernel⟩)
  k_fillS
  refine L2.walk_specK (r := PySem.Challenge.rw_gatenets_s01_check) (k := 6) (CX := L2.CX0) (ps := ["text"]) (sp := GN.spCheck) (by decide +kernel) rfl rfl ⟨rfl, by decide, by decide⟩ (fun w h Y => PySem.W.kIn_of Y) ?F ?S (fun _ _ _ _ z => z)
  case F =>
    intro w mg fa h Y KX G hmg
    refine' GN.all_mk KX G hmg ?aF ?aG ?aN ?a1 ?l1 ?c1 ?q1 ?a2 ?l2 ?c2 ?q2 ?a3 ?l3 ?c3 ?q3 ?a4 ?l4 ?c4 ?q4 ?a5 ?l5 ?c5 ?q5 ?a6 ?l6 ?c6 ?q6 ?a7 ?l7 ?c7 ?q7 ?a8 ?l8 ?c8 ?q8 ?a9 ?l9 ?c9 ?q9 ?a10 ?l10 ?c10 ?q10 ?a11 ?l11 ?c11 ?q11 ?a12 ?l12 ?c12 ?q12 ?a13 ?l13 ?c13 ?q13 ?a14 ?l14 ?c14 ?q14 ?a15 ?l15 ?c15 ?q15 ?a16 ?i16 ?l16 ?c16 ?q16 ?a17 ?i17 ?l17 ?c17 ?q17 ?pgG ?hdG ?poG ?saG ?mkG ?kcG ?pgN ?hdN ?poN ?saN ?mkN ?kcN ?nK ?nS ?nI ?nO ?nG ?xF ?kF ?bF ?tF ?iF ?sF ?zl ?zo ?za ?v1 ?v2 ?v3 ?v4 ?v5 ?v6 ?v7 ?v8 ?v9 ?aD ?lD ?yD ?oD ?hD ?aR ?lR ?yR ?oR ?hR
    (case aF => k_is)
    (case aG => k_is)
    (case aN => k_is)
    (case a1 => k_is)
    (case l1 => k_is)
    (case c1 => k_is)
    (case q1 => k_is)
    (case a2 => k_is)
    (case l2 => k_is)
    (case c2 => k_is)
    (case q2 => k_is)
    (case a3 => k_is)
    (case l3 => k_is)
    (case c3 => k_is)
    (case q3 => k_is)
    (case a4 => k_is)
    (case l4 => k_is)
    (case c4 => k_is)
    (case q4 => k_is)
    (case a5 => k_is)
    (case l5 => k_is)
    (case c5 => k_is)
    (case q5 => k_is)
    (case a6 => k_is)
    (case l6 => k_is)
    (case c6 => k_is)
    (case q6 => k_is)
    (case a7 => k_is)
    (case l7 => k_is)
    (case c7 => k_is)
    (case q7 => k_is)
    (case a8 => k_is)
    (case l8 => k_is)
    (case c8 => k_is)
    (case q8 => k_is)
    (case a9 => k_is)
    (case l9 => k_is)
    (case c9 => k_is)
    (case q9 => k_is)
    (case a10 => k_is)
    (case l10 => k_is)
    (case c10 => k_is)
    (case q10 => k_is)
    (case a11 => k_is)
    (case l11 => k_is)
    (case c11 => k_is)
    (case q11 => k_is)
    (case a12 => k_is)
    (case l12 => k_is)
    (case c12 => k_is)
    (case q12 => k_is)
    (case a13 => k_is)
    (case l13 => k_is)
    (case c13 => k_is)
    (case q13 => k_is)
    (case a14 => k_is)
    (case l14 => k_is)
    (case c14 => k_is)
    (case q14 => k_is)
    (case a15 => k_is)
    (case l15 => k_is)
    (case c15 => k_is)
    (case q15 => k_is)
    (case a16 => k_is)
    (case i16 => k_is)
    (case l16 => k_is)
    (case c16 => k_is)
    (case q16 => k_is)
    (case a17 => k_is)
    (case i17 => k_is)
    (case l17 => k_is)
    (case c17 => k_is)
    (case q17 => k_is)
    (case pgG => k_is)
    (case hdG => k_is)
    (case poG => k_is)
    (case saG => k_is)
    (case mkG => k_is)
    (case kcG => k_is)
    (case pgN => k_is)
    (case hdN => k_is)
    (case poN => k_is)
    (case saN => k_is)
    (case mkN => k_is)
    (case kcN => k_is)
    (case nK => k_is)
    (case nS => k_is)
    (case nI => k_is)
    (case nO => k_is)
    (case nG => k_is)
    (case xF => k_exc)
    (case kF => k_is)
    (case bF => k_is)
    (case tF => k_is)
    (case iF => k_is)
    (case sF => first | rfl | k_is)
    (case zl => k_is)
    (case zo => k_is)
    (case za => k_is)
    (case v1 => k_is)
    (case v2 => k_is)
    (case v3 => k_is)
    (case v4 => k_is)
    (case v5 => k_is)
    (case v6 => k_is)
    (case v7 => k_is)
    (case v8 => k_is)
    (case v9 => k_is)
    (case aD => k_is)
    (case lD => k_is)
    (case yD => k_keys)
    (case oD => decide)
    (case hD => repeat (first | exact True.intro | refine ⟨⟨_, rfl⟩, ⟨_, rfl⟩, ?_⟩))
    (case aR => k_is)
    (case lR => k_is)
    (case yR => k_keys)
    (case oR => decide)
    (case hR => repeat (first | exact True.intro | refine ⟨⟨_, rfl⟩, ⟨_, rfl⟩, ?_⟩))
  case S =>
    intro K H xs a hO hwi hask hx
    cases hx with
    | cons h1 h2 =>
      cases h2
      cases h1 with
      | lst hs ha =>
        have e := L2.ints_dw a.1 _ ha
        subst e
        have q : ((Codec.inLen 0 65536 a.1 && a.1.all (Codec.inInt 0 255)) && true) = true := hwi
        rw [Bool.and_eq_true, Bool.and_eq_true] at q
        refine ⟨_, a.1, rfl, hs, (Codec.inNat_iff.mp q.1.1).2, fun n hn => ?_, fun H' p hp => .lst (L2.SqL.of hp) (L2.dw_ints _)⟩
        exact Codec.inInt_iff.mp (List.all_eq_true.mp q.1.2 n hn)
#print axioms PySem.Challenge.cw_gatenets_s01_check_holds
